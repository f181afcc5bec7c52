import PyProof.Rows.All
import Wide.All
import OpenK.AllK
import Wide.FinOn
import HandS.ForMost
import HandS.ForExc
import HandS.Zip
import HandS.IsInst
import HandS.Flow
import HandS.Style
import HandS.TupAny
import HandS.CallSlots
import KE.GoesEnum
import PySem.Challenge.RW_sureplan_k19_common_box
set_option Elab.async false
set_option linter.all false
set_option maxRecDepth 100000
set_option maxHeartbeats 4000000
/-! Vp: values without addresses for what never changes, a partial map of what does, and an interpreter by weakest preconditions, sound over the hand layer's readings. -/
namespace Vp
open PySem PySem.Spec PyProof.Rows L2

/-- data: what cannot change any more, by value -/
inductive D where
  | non | bl (b : Bool) | int (i : Int) | str (x : Str) | tup (ds : List D) | lst (ds : List D) | ref (a : Addr) | ty (n : String)
/-- a thing that may change -/
inductive MO where
  | lst (ds : List D) | dK (kvs : List (Key × D)) | ins (C : Addr) (fs : List (Str × D))
abbrev Mo := Addr → Option MO
def updM (M : Mo) (a : Addr) (o : MO) : Mo := fun b => if b = a then some o else M b
def delM (M : Mo) (a : Addr) : Mo := fun b => if b = a then none else M b
theorem updM_same {M : Mo} {a : Addr} {o : MO} : updM M a o a = some o := if_pos rfl
theorem updM_ne {M : Mo} {a b : Addr} {o : MO} (h : b ≠ a) : updM M a o b = M b := if_neg h
theorem delM_same {M : Mo} {a : Addr} : delM M a a = none := if_pos rfl
theorem delM_ne {M : Mo} {a b : Addr} (h : b ≠ a) : delM M a b = M b := if_neg h
theorem updM_updM {M : Mo} {a : Addr} {o u : MO} : updM (updM M a o) a u = updM M a u := by
  funext b; unfold updM; split <;> rfl
def Sub (M M' : Mo) : Prop := ∀ a o, M a = some o → M' a = some o
theorem Sub.refl (M : Mo) : Sub M M := fun _ _ h => h
theorem Sub.trans {M M1 M2 : Mo} (a : Sub M M1) (b : Sub M1 M2) : Sub M M2 := fun x o h => b x o (a x o h)
theorem Sub.new {M M' : Mo} {a : Addr} {o : MO} (s : Sub M M') (h : M a = none) : Sub M (updM M' a o) := fun b u e => by
  rw [updM_ne (fun z => by rw [z, h] at e; cases e)]
  exact s b u e
theorem Sub.del {M M' : Mo} {a : Addr} (s : Sub M M') (h : M a = none) : Sub M (delM M' a) := fun b u e => by
  rw [delM_ne (fun z => by rw [z, h] at e; cases e)]
  exact s b u e
theorem Sub.upd {M M' : Mo} {a : Addr} {o : MO} (s : Sub M M') : Sub (updM M a o) (updM M' a o) := fun b u e => by
  by_cases h : b = a
  · subst h; rw [updM_same] at e ⊢; exact e
  · rw [updM_ne h] at e ⊢; exact s b u e

def Ex (F F' : Hp) : Prop := ∀ a o, F a = some o → F' a = some o
theorem Ex.refl (F : Hp) : Ex F F := fun _ _ h => h
theorem Ex.trans {F F1 F2 : Hp} (a : Ex F F1) (b : Ex F1 F2) : Ex F F2 := fun x o h => b x o (a x o h)
theorem Ex.new {F F' : Hp} {p : Addr} {o : HO} (e : Ex F F') (h : F p = none) : Ex F (upd F' p o) := fun a u ha => by
  rw [upd_ne (ne_of_none ha h)]
  exact e a u ha
theorem Ex.both {F F' : Hp} {p : Addr} {o : HO} (e : Ex F F') : Ex (upd F p o) (upd F' p o) := fun b u h => by
  by_cases hb : b = p
  · subst hb; rw [upd_same] at h ⊢; exact h
  · rw [upd_ne hb] at h ⊢; exact e b u h
theorem Ex.none {F F' : Hp} {p : Addr} (e : Ex F F') (h : F' p = Option.none) : F p = Option.none := by
  cases q : F p with
  | none => rfl
  | some o => rw [e p o q] at h; cases h
theorem ex_rd {H H' : Hp} {a : Addr} {u : HO} (e : Ex H H') (h : Rd H a u) : Rd H' a u := by
  rcases h with h | ⟨o, h⟩
  · exact .inl (e a _ h)
  · exact .inr ⟨o, e a _ h⟩
theorem ex_l {K : PySem.W.Frag} {H H' : Hp} {a : Addr} {xs : List V} (e : Ex H H') (h : SqL K H a xs) : SqL K H' a xs := by
  rcases h with h | h
  · exact .inl (ex_rd e h)
  · exact .inr h
theorem ex_t {K : PySem.W.Frag} {H H' : Hp} {a : Addr} {xs : List V} (e : Ex H H') (h : SqT K H a xs) : SqT K H' a xs := by
  rcases h with h | h
  · exact .inl (ex_rd e h)
  · exact .inr h

mutual
/-- the value v holds the data d, by what is known not to change -/
inductive Rep (K : PySem.W.Frag) (F : Hp) : V → D → Prop
  | non : Rep K F .non .non
  | bl (b : Bool) : Rep K F (.bl b) (.bl b)
  | int (i : Int) : Rep K F (.int i) (.int i)
  | str (x : Str) : Rep K F (.str x) (.str x)
  | ref (a : Addr) : Rep K F (.ref a) (.ref a)
  | ty (n : String) : Rep K F (.ty n) (.ty n)
  | tup {a : Addr} {xs : List V} {ds : List D} (h : SqT K F a xs) (r : RepL K F xs ds) : Rep K F (.ref a) (.tup ds)
  | lst {a : Addr} {xs : List V} {ds : List D} (h : SqL K F a xs) (r : RepL K F xs ds) : Rep K F (.ref a) (.lst ds)
inductive RepL (K : PySem.W.Frag) (F : Hp) : List V → List D → Prop
  | nil : RepL K F [] []
  | cons {v : V} {d : D} {vs : List V} {ds : List D} (h : Rep K F v d) (t : RepL K F vs ds) : RepL K F (v :: vs) (d :: ds)
end
section
variable {K : PySem.W.Frag} {F F' : Hp}
mutual
theorem Rep.mono (e : Ex F F') : ∀ {v : V} {d : D}, Rep K F v d → Rep K F' v d
  | _, _, .non => .non
  | _, _, .bl b => .bl b
  | _, _, .int i => .int i
  | _, _, .str x => .str x
  | _, _, .ref a => .ref a
  | _, _, .ty n => .ty n
  | _, _, .tup h r => .tup (ex_t e h) (RepL.mono e r)
  | _, _, .lst h r => .lst (ex_l e h) (RepL.mono e r)
theorem RepL.mono (e : Ex F F') : ∀ {vs : List V} {ds : List D}, RepL K F vs ds → RepL K F' vs ds
  | _, _, .nil => .nil
  | _, _, .cons h t => .cons (Rep.mono e h) (RepL.mono e t)
end
theorem RepL.length : ∀ {vs : List V} {ds : List D}, RepL K F vs ds → vs.length = ds.length
  | _, _, .nil => rfl
  | _, _, .cons _ t => congrArg (· + 1) (RepL.length t)
theorem RepL.get : ∀ {vs : List V} {ds : List D} {i : Nat} {d : D}, RepL K F vs ds → ds[i]? = some d → ∃ v, vs[i]? = some v ∧ Rep K F v d
  | _, _, _, _, .nil, e => by simp at e
  | _, _, 0, _, .cons h _, e => by simp at e; subst e; exact ⟨_, rfl, h⟩
  | _, _, i + 1, d, .cons _ t, e => by
    obtain ⟨v, h1, h2⟩ := RepL.get (i := i) (d := d) t (by simpa using e)
    exact ⟨v, by simpa using h1, h2⟩
theorem RepL.getV : ∀ {vs : List V} {ds : List D} {i : Nat} {v : V}, RepL K F vs ds → vs[i]? = some v → ∃ d, ds[i]? = some d ∧ Rep K F v d
  | _, _, _, _, .nil, e => by simp at e
  | _, _, 0, _, .cons h _, e => by simp at e; subst e; exact ⟨_, rfl, h⟩
  | _, _, i + 1, v, .cons _ t, e => by
    obtain ⟨d, h1, h2⟩ := RepL.getV (i := i) (v := v) t (by simpa using e)
    exact ⟨d, by simpa using h1, h2⟩
theorem RepL.append : ∀ {vs ws : List V} {ds es : List D}, RepL K F vs ds → RepL K F ws es → RepL K F (vs ++ ws) (ds ++ es)
  | _, _, _, _, .nil, s => s
  | _, _, _, _, .cons h t, s => .cons h (RepL.append t s)
theorem RepL.take : ∀ {vs : List V} {ds : List D} (n : Nat), RepL K F vs ds → RepL K F (vs.take n) (ds.take n)
  | _, _, 0, _ => .nil
  | _, _, _ + 1, .nil => .nil
  | _, _, n + 1, .cons h t => .cons h (RepL.take n t)
theorem RepL.drop : ∀ {vs : List V} {ds : List D} (n : Nat), RepL K F vs ds → RepL K F (vs.drop n) (ds.drop n)
  | _, _, 0, r => r
  | _, _, _ + 1, .nil => .nil
  | _, _, n + 1, .cons _ t => RepL.drop n t
theorem RepL.set : ∀ {vs : List V} {ds : List D} {v : V} {d : D} (i : Nat), RepL K F vs ds → Rep K F v d → RepL K F (vs.set i v) (ds.set i d)
  | _, _, _, _, _, .nil, _ => .nil
  | _, _, _, _, 0, .cons _ t, r => .cons r t
  | _, _, _, _, i + 1, .cons h t, r => .cons h (RepL.set i t r)
theorem RepL.ints : ∀ (ns : List Int), RepL K F (ns.map V.int) (ns.map D.int)
  | [] => .nil
  | n :: r => .cons (.int n) (RepL.ints r)
end

/-- an object of the heap as a thing that may change -/
def RepO (K : PySem.W.Frag) (F : Hp) (ho : HO) : MO → Prop
  | .lst ds => ∃ xs, ho = .lst xs ∧ RepL K F xs ds
  | .dK kvs => ∃ ws, ho = .dK ws ∧ ws.map (·.1) = kvs.map (·.1) ∧ RepL K F (ws.map (·.2)) (kvs.map (·.2))
  | .ins C fs => ∃ dx ws, ho = .ins C dx ws ∧ ws.map (·.1) = fs.map (·.1) ∧ RepL K F (ws.map (·.2)) (fs.map (·.2))
theorem RepO.mono {K : PySem.W.Frag} {F F' : Hp} (e : Ex F F') {ho : HO} : ∀ {mo : MO}, RepO K F ho mo → RepO K F' ho mo
  | .lst _, ⟨xs, h, r⟩ => ⟨xs, h, r.mono e⟩
  | .dK _, ⟨ws, h, k, r⟩ => ⟨ws, h, k, r.mono e⟩
  | .ins _ _, ⟨dx, ws, h, k, r⟩ => ⟨dx, ws, h, k, r.mono e⟩
theorem RepO.mut {K : PySem.W.Frag} {F : Hp} {ho : HO} : ∀ {mo : MO}, RepO K F ho mo → Mut (some ho)
  | .lst _, ⟨_, h, _⟩ => by subst h; exact True.intro
  | .dK _, ⟨_, h, _⟩ => by subst h; exact True.intro
  | .ins _ _, ⟨_, _, h, _⟩ => by subst h; exact True.intro

/-- the map of what may change is held by the heap -/
def MRep (K : PySem.W.Frag) (F H : Hp) (M : Mo) : Prop := ∀ a mo, M a = some mo → F a = none ∧ ∃ ho, H a = some ho ∧ RepO K F ho mo
structure Sat (K : PySem.W.Frag) (F H : Hp) (M : Mo) : Prop where
  ex : Ex F H
  m : MRep K F H M
/-- from one state to a later one -/
structure Step (K : PySem.W.Frag) (F : Hp) (M : Mo) (H : Hp) (F' : Hp) (M' : Mo) (H' : Hp) : Prop where
  ff : Ex F F'
  fh : Ex F' H'
  m : MRep K F' H' M'
  keep : ∀ a o, H a = some o → M a = none → H' a = some o
  newF : ∀ a, H a ≠ none → M a = none → F a = none → F' a = none
  newM : ∀ a, H a ≠ none → M a = none → M' a = none
section
variable {K : PySem.W.Frag} {F F1 F2 H H1 H2 : Hp} {M M1 M2 M' : Mo}
theorem Step.sat (s : Step K F M H F1 M1 H1) : Sat K F1 H1 M1 := ⟨s.fh, s.m⟩
theorem Step.refl (s : Sat K F H M) : Step K F M H F M H := ⟨Ex.refl _, s.ex, s.m, fun _ _ h _ => h, fun _ _ _ h => h, fun _ _ h => h⟩
theorem Step.trans (a : Step K F M H F1 M1 H1) (b : Step K F1 M1 H1 F2 M2 H2) : Step K F M H F2 M2 H2 where
  ff := a.ff.trans b.ff
  fh := b.fh
  m := b.m
  keep := fun x o h n => b.keep x o (a.keep x o h n) (a.newM x (by rw [h]; simp) n)
  newF := fun x h n f => by
    obtain ⟨o, ho⟩ := Option.ne_none_iff_exists'.mp h
    exact b.newF x (by rw [a.keep x o ho n]; simp) (a.newM x h n) (a.newF x h n f)
  newM := fun x h n => by
    obtain ⟨o, ho⟩ := Option.ne_none_iff_exists'.mp h
    exact b.newM x (by rw [a.keep x o ho n]; simp) (a.newM x h n)
/-- what is known of what may change is forgotten -/
theorem Step.forget (a : Step K F M H F1 M1 H1) (s : Sub M' M1) : Step K F M H F1 M' H1 :=
  ⟨a.ff, a.fh, fun x o h => a.m x o (s x o h), a.keep, a.newF, fun x h n => by
    cases q : M' x with
    | none => rfl
    | some o =>
      have z := s x o q
      rw [a.newM x h n] at z
      cases z⟩
theorem Sat.none (s : Sat K F H M) {p : Addr} (h : H p = Option.none) : F p = Option.none ∧ M p = Option.none := by
  refine ⟨s.ex.none h, ?_⟩
  cases q : M p with
  | none => rfl
  | some mo =>
    obtain ⟨_, ho, e, _⟩ := s.m p mo q
    rw [e] at h; cases h
/-- a new object that will not change -/
theorem Sat.newF (s : Sat K F H M) {p : Addr} (h : H p = Option.none) (o : HO) : Step K F M H (upd F p o) M (upd H p o) := by
  obtain ⟨f, n⟩ := s.none h
  refine ⟨(Ex.refl F).new f, s.ex.both, fun a mo e => ?_, fun a u e _ => ?_, fun a e _ g => ?_, fun a e g => g⟩
  · have hne : a ≠ p := fun z => by rw [z, n] at e; cases e
    obtain ⟨f1, ho, h1, r⟩ := s.m a mo e
    exact ⟨by rw [upd_ne hne]; exact f1, ho, by rw [upd_ne hne]; exact h1, r.mono ((Ex.refl F).new f)⟩
  · rw [upd_ne (ne_of_none e h)]; exact e
  · have hne : a ≠ p := fun z => by rw [z] at e; exact e h
    rw [upd_ne hne]; exact g
/-- a new object that is not told -/
theorem Sat.newH (s : Sat K F H M) {p : Addr} (h : H p = Option.none) (o : HO) : Step K F M H F M (upd H p o) := by
  refine ⟨Ex.refl F, fun a u e => ?_, fun a mo e => ?_, fun a u e _ => ?_, fun a e _ g => g, fun a e g => g⟩
  · rw [upd_ne (ne_of_none (s.ex a u e) h)]; exact s.ex a u e
  · obtain ⟨f1, ho, h1, r⟩ := s.m a mo e
    exact ⟨f1, ho, by rw [upd_ne (ne_of_none h1 h)]; exact h1, r⟩
  · rw [upd_ne (ne_of_none e h)]; exact e
/-- a new object that may change -/
theorem Sat.newM (s : Sat K F H M) {p : Addr} (h : H p = Option.none) {o : HO} {mo : MO} (r : RepO K F o mo) : Step K F M H F (updM M p mo) (upd H p o) := by
  obtain ⟨f, n⟩ := s.none h
  refine ⟨Ex.refl F, (s.newH h o).fh, fun a u e => ?_, (s.newH h o).keep, fun a e _ g => g, fun a e g => ?_⟩
  · by_cases hne : a = p
    · subst hne
      rw [updM_same] at e; cases e
      exact ⟨f, o, upd_same, r⟩
    · rw [updM_ne hne] at e
      exact (s.newH h o).m a u e
  · have hne : a ≠ p := fun z => by rw [z] at e; exact e h
    rw [updM_ne hne]; exact g
/-- a thing that may change is changed -/
theorem Sat.write (s : Sat K F H M) {p : Addr} {mo0 mo : MO} (h : M p = some mo0) {o : HO} (r : RepO K F o mo) : Step K F M H F (updM M p mo) (upd H p o) := by
  obtain ⟨f, ho, hp, r0⟩ := s.m p mo0 h
  refine ⟨Ex.refl F, fun a u e => ?_, fun a u e => ?_, fun a u e n => ?_, fun a e _ g => g, fun a e g => ?_⟩
  · rw [upd_ne (ne_of_none e f)]; exact s.ex a u e
  · by_cases hne : a = p
    · subst hne
      rw [updM_same] at e; cases e
      exact ⟨f, o, upd_same, r⟩
    · rw [updM_ne hne] at e
      obtain ⟨f1, ho1, h1, r1⟩ := s.m a u e
      exact ⟨f1, ho1, by rw [upd_ne hne]; exact h1, r1⟩
  · have hne : a ≠ p := fun z => by rw [z, h] at n; cases n
    rw [upd_ne hne]; exact e
  · have hne : a ≠ p := fun z => by rw [z, h] at g; cases g
    rw [updM_ne hne]; exact g
/-- a thing that may change will not change any more -/
theorem Sat.freeze (s : Sat K F H M) {p : Addr} {mo : MO} (h : M p = some mo) {o : HO} (hp : H p = some o) : Step K F M H (upd F p o) (delM M p) H := by
  obtain ⟨f, ho, hp', r0⟩ := s.m p mo h
  refine ⟨(Ex.refl F).new f, fun a u e => ?_, fun a u e => ?_, fun a u e n => e, fun a e n g => ?_, fun a e g => ?_⟩
  · by_cases hne : a = p
    · subst hne; rw [upd_same] at e; cases e; exact hp
    · rw [upd_ne hne] at e; exact s.ex a u e
  · have hne : a ≠ p := fun z => by rw [z, delM_same] at e; cases e
    rw [delM_ne hne] at e
    obtain ⟨f1, ho1, h1, r1⟩ := s.m a u e
    exact ⟨by rw [upd_ne hne]; exact f1, ho1, h1, r1.mono ((Ex.refl F).new f)⟩
  · have hne : a ≠ p := fun z => by rw [z, h] at n; cases n
    rw [upd_ne hne]; exact g
  · by_cases hne : a = p
    · subst hne; exact delM_same
    · rw [delM_ne hne]; exact g
end

abbrev Rho := List (Option D)
structure RepE (K : PySem.W.Frag) (F : Hp) (σ : L2.St) (ρ : Rho) : Prop where
  len : σ.length = ρ.length
  get : ∀ (i : Nat) (d : D), ρ[i]? = some (some d) → ∃ v, σ[i]? = some (some v) ∧ Rep K F v d
section
variable {K : PySem.W.Frag} {F F' : Hp} {σ : L2.St} {ρ : Rho}
theorem RepE.mono (e : Ex F F') (r : RepE K F σ ρ) : RepE K F' σ ρ := ⟨r.len, fun i d h => let ⟨v, a, b⟩ := r.get i d h; ⟨v, a, b.mono e⟩⟩
theorem RepE.set (r : RepE K F σ ρ) {i : Nat} {v : V} {d : D} (h : Rep K F v d) : RepE K F (σ.set i (some v)) (ρ.set i (some d)) := by
  refine ⟨by rw [List.length_set, List.length_set]; exact r.len, fun j d' e => ?_⟩
  by_cases hj : i = j
  · subst hj
    have hi : i < ρ.length := by
      have := List.getElem?_eq_some_iff.mp e
      obtain ⟨q, _⟩ := this
      rw [List.length_set] at q
      exact q
    rw [List.getElem?_set_self hi] at e
    cases e
    exact ⟨v, List.getElem?_set_self (by rw [r.len]; exact hi), h⟩
  · rw [List.getElem?_set_ne hj] at e
    rw [List.getElem?_set_ne hj]
    exact r.get j d' e
theorem RepE.forget (r : RepE K F σ ρ) {i : Nat} {x : Option V} : RepE K F (σ.set i x) (ρ.set i none) := by
  refine ⟨by rw [List.length_set, List.length_set]; exact r.len, fun j d' e => ?_⟩
  by_cases hj : i = j
  · subst hj
    have hi : i < ρ.length := by
      obtain ⟨q, _⟩ := List.getElem?_eq_some_iff.mp e
      rw [List.length_set] at q
      exact q
    rw [List.getElem?_set_self hi] at e
    cases e
  · rw [List.getElem?_set_ne hj] at e
    rw [List.getElem?_set_ne hj]
    exact r.get j d' e
end
def wipeR (ρ : Rho) : List Nat → Rho
  | [] => ρ
  | v :: vs => (wipeR ρ vs).set v none
theorem RepE.wipe {K : PySem.W.Frag} {F : Hp} {σ : L2.St} {ρ : Rho} (r : RepE K F σ ρ) : ∀ vs : List Nat, RepE K F (wipe σ vs) (wipeR ρ vs)
  | [] => r
  | v :: vs => (RepE.wipe r vs).forget

/-! ### what is wanted behind -/
abbrev QE := D → Mo → Prop
abbrev XQ := Value → List (Str × D) → Mo → Prop
abbrev VE := Rho → Mo → QE → XQ → Prop
def RepX (K : PySem.W.Frag) (F H : Hp) (d : Option Addr) (fs : List (Str × D)) : Prop := match d with
  | none => fs = []
  | some dd => ∃ ws, H dd = some (.xd ws) ∧ ws.map (·.1) = fs.map (·.1) ∧ RepL K F (ws.map (·.2)) (fs.map (·.2))
def PV (K : PySem.W.Frag) (F : Hp) (M : Mo) (H : Hp) (Q : VK) (Q' : QE) : Prop := ∀ d M', Q' d M' → ∀ F' H' v, Step K F M H F' M' H' → Rep K F' v d → Q v H'
def PB (K : PySem.W.Frag) (F : Hp) (M : Mo) (H : Hp) (Q : Bool → Hp → Prop) (Q' : Bool → Mo → Prop) : Prop := ∀ b M', Q' b M' → ∀ F' H', Step K F M H F' M' H' → Q b H'
def PL (K : PySem.W.Frag) (F : Hp) (M : Mo) (H : Hp) (Q : List V → Hp → Prop) (Q' : List D → Mo → Prop) : Prop := ∀ ds M', Q' ds M' → ∀ F' H' vs, Step K F M H F' M' H' → RepL K F' vs ds → Q vs H'
def PX (K : PySem.W.Frag) (F : Hp) (M : Mo) (H : Hp) (W : WX) (σ : L2.St) (X' : XQ) : Prop := ∀ c fs M', X' c fs M' → ∀ F' H' d, Step K F M H F' M' H' → RepX K F' H' d fs → W c d σ H'
section
variable {K : PySem.W.Frag} {F F1 H H1 : Hp} {M M1 : Mo} {W : WX} {σ : L2.St}
theorem PV.step {Q : VK} {Q' : QE} (s : Step K F M H F1 M1 H1) (p : PV K F M H Q Q') : PV K F1 M1 H1 Q Q' := fun d M' h F' H' v t r => p d M' h F' H' v (s.trans t) r
theorem PB.step {Q : Bool → Hp → Prop} {Q' : Bool → Mo → Prop} (s : Step K F M H F1 M1 H1) (p : PB K F M H Q Q') : PB K F1 M1 H1 Q Q' := fun d M' h F' H' t => p d M' h F' H' (s.trans t)
theorem PL.step {Q : List V → Hp → Prop} {Q' : List D → Mo → Prop} (s : Step K F M H F1 M1 H1) (p : PL K F M H Q Q') : PL K F1 M1 H1 Q Q' := fun d M' h F' H' v t r => p d M' h F' H' v (s.trans t) r
theorem PX.step {X' : XQ} (s : Step K F M H F1 M1 H1) (p : PX K F M H W σ X') : PX K F1 M1 H1 W σ X' := fun c fs M' h F' H' d t r => p c fs M' h F' H' d (s.trans t) r
end
/-- readings by data -/
def tE (K : PySem.W.Frag) (W : WX) (w : VE) : TE := fun σ H Q => ∃ F M ρ Q' X', Sat K F H M ∧ RepE K F σ ρ ∧ w ρ M Q' X' ∧ PV K F M H Q Q' ∧ PX K F M H W σ X'
def tT (K : PySem.W.Frag) (W : WX) (w : Rho → Mo → (Bool → Mo → Prop) → XQ → Prop) : TT := fun σ H Q => ∃ F M ρ Q' X', Sat K F H M ∧ RepE K F σ ρ ∧ w ρ M Q' X' ∧ PB K F M H Q Q' ∧ PX K F M H W σ X'
def tL (K : PySem.W.Frag) (W : WX) (w : Rho → Mo → (List D → Mo → Prop) → XQ → Prop) : TA := fun σ H Q => ∃ F M ρ Q' X', Sat K F H M ∧ RepE K F σ ρ ∧ w ρ M Q' X' ∧ PL K F M H Q Q' ∧ PX K F M H W σ X'
theorem PE.weak {X : Cx} {e : Expr} {t t' : TE} (h : PE X e t) (i : ∀ σ H Q, t' σ H Q → t σ H Q) : PE X e t' := ⟨fun pins s σ H Q I q => h.run pins s σ H Q I (i σ H Q q)⟩
theorem PT.weak {X : Cx} {e : Expr} {t t' : TT} (h : PT X e t) (i : ∀ σ H Q, t' σ H Q → t σ H Q) : PT X e t' := ⟨fun pins s σ H Q I q => h.run pins s σ H Q I (i σ H Q q)⟩
theorem PW.weak {X : Cx} {e : Expr} {t t' : TT} (h : PW X e t) (i : ∀ σ H Q, t' σ H Q → t σ H Q) : PW X e t' := ⟨fun w pins s σ H Q I q => h.run w pins s σ H Q I (i σ H Q q)⟩
theorem PA.weak {X : Cx} {es : List Expr} {t t' : TA} (h : PA X es t) (i : ∀ σ H Q, t' σ H Q → t σ H Q) : PA X es t' := ⟨fun p pins s σ H Q I q => h.run p pins s σ H Q I (i σ H Q q)⟩
theorem PS.weak {X : Cx} {e : Stmt} {t t' : TS} (h : PS X e t) (i : ∀ D σ H, t' D σ H → t D σ H) : PS X e t' := ⟨fun pins s σ H D I q => h.run pins s σ H D I (i D σ H q)⟩
theorem PSs.weak {X : Cx} {e : List Stmt} {t t' : TS} (h : PSs X e t) (i : ∀ D σ H, t' D σ H → t D σ H) : PSs X e t' := ⟨fun pins s σ H D I q => h.run pins s σ H D I (i D σ H q)⟩
end Vp
namespace Vp
open PySem PySem.Spec PyProof.Rows L2

/-! ### operations by data -/
mutual
def toPy : D → PyData
  | .non => .none | .bl b => .bool b | .int i => .int i | .str x => .str x
  | .tup ds => .tuple (toPys ds) | .lst ds => .list (toPys ds) | .ref _ => .none | .ty _ => .none
def toPys : List D → List PyData
  | [] => [] | d :: r => toPy d :: toPys r
end
mutual
def pyOk : D → Bool
  | .tup ds => pyOks ds | .lst ds => pyOks ds | .ref _ => false | .ty _ => false | _ => true
def pyOks : List D → Bool
  | [] => true | d :: r => pyOk d && pyOks r
end
section
variable {K : PySem.W.Frag} {F H : Hp}
mutual
theorem Rep.dp (e : Ex F H) : ∀ {v : V} {d : D}, Rep K F v d → pyOk d = true → Dp K H v (toPy d)
  | _, _, .non, _ => .non
  | _, _, .bl b, _ => .bl b
  | _, _, .int i, _ => .int i
  | _, _, .str x, _ => .str x
  | _, _, .ref a, h => by unfold pyOk at h; cases h
  | _, _, .ty n, h => by unfold pyOk at h; cases h
  | _, _, .tup s r, h => by unfold toPy; unfold pyOk at h; exact .tup (ex_t e s) (RepL.dp e r h)
  | _, _, .lst s r, h => by unfold toPy; unfold pyOk at h; exact .lst (ex_l e s) (RepL.dp e r h)
theorem RepL.dp (e : Ex F H) : ∀ {vs : List V} {ds : List D}, RepL K F vs ds → pyOks ds = true → DpAll K H vs (toPys ds)
  | _, _, .nil, _ => .nil
  | _, _, .cons h t, q => by
    unfold pyOks at q
    obtain ⟨q1, q2⟩ := Bool.and_eq_true_iff.mp q
    unfold toPys
    exact .cons (Rep.dp e h q1) (RepL.dp e t q2)
end
end
def eqOk (d : D) : Bool := pyOk d && SeqAt.shaped (toPy d)
def cmpEq : D → D → Option Bool
  | .int i, .int j => some (decide (i = j))
  | .bl i, .bl j => some (decide (i = j))
  | .str i, .str j => some (decide (i = j))
  | .non, .non => some true
  | .non, .int _ => some false | .int _, .non => some false | .non, .bl _ => some false | .bl _, .non => some false | .non, .str _ => some false | .str _, .non => some false
  | .int _, .str _ => some false | .str _, .int _ => some false | .bl _, .str _ => some false | .str _, .bl _ => some false
  | a, b => if eqOk a && eqOk b then some (PyData.eqv (toPy a) (toPy b)) else none
def cmpIs : D → D → Option Bool
  | .non, .non => some true
  | .bl _, .non => some false | .int _, .non => some false | .str _, .non => some false | .tup _, .non => some false | .lst _, .non => some false | .ref _, .non => some false
  | .bl i, .bl j => some (decide (i = j))
  | _, _ => none
def cmpV : CmpOp → D → D → Option Bool
  | .Eq, a, b => cmpEq a b
  | .NotEq, a, b => (cmpEq a b).map not
  | .Is, a, b => cmpIs a b
  | .IsNot, a, b => (cmpIs a b).map not
  | .Lt, .int i, .int j => some (decide (i < j))
  | .LtE, .int i, .int j => some (decide (i ≤ j))
  | .Gt, .int i, .int j => some (decide (j < i))
  | .GtE, .int i, .int j => some (decide (j ≤ i))
  | _, _, _ => none
def binV : Operator → D → D → Option D
  | .Add, .int i, .int j => some (.int (i + j))
  | .Add, .str x, .str y => if x.length + y.length ≤ 16777216 then some (.str (x ++ y)) else none
  | .Add, .tup xs, .tup ys => if xs.length + ys.length ≤ 16777216 then some (.tup (xs ++ ys)) else none
  | .Sub, .int i, .int j => some (.int (i - j))
  | .Mult, .int i, .int j => if (-(2 ^ 64) < i ∧ i < 2 ^ 64) ∨ (-(2 ^ 64) < j ∧ j < 2 ^ 64) then some (.int (i * j)) else none
  | .FloorDiv, .int i, .int j => if j ≠ 0 ∧ j.natAbs < 1073741824 then some (.int (i.fdiv j)) else none
  | .Mod, .int i, .int j => if j ≠ 0 then some (.int (i.fmod j)) else none
  | .Pow, .int i, .int j => if 0 ≤ j ∧ j ≤ 1000000 ∧ i.natAbs < 2 ^ 64 then some (.int (i ^ j.toNat)) else none
  | _, _, _ => none
def truD (M : Mo) : D → Option Bool
  | .non => some false | .bl b => some b | .int i => some (i != 0)
  | .str x => if x.length ≤ 16777216 then some ((x.length : Int) != 0) else none
  | .tup ds => some (!ds.isEmpty) | .lst ds => some (!ds.isEmpty)
  | .ref p => match M p with | some (.lst ds) => some (!ds.isEmpty) | some (.dK kvs) => some (!kvs.isEmpty) | _ => none
  | .ty _ => none
def ixV (M : Mo) : D → D → Option D
  | .tup ds, .int i => atI ds i
  | .lst ds, .int i => atI ds i
  | .str x, .int i => if x.length ≤ 16777216 then (atI x.cps.toList i).map fun c => .str ⟨#[c]⟩ else none
  | .ref p, .int i => match M p with | some (.lst ds) => atI ds i | _ => none
  | _, _ => none
def instI (M : Mo) : D → String → Option Bool
  | .non, T => if T = "int" ∨ T = "bool" ∨ T = "str" ∨ T = "tuple" ∨ T = "list" ∨ T = "dict" then some false else none
  | .bl _, T => if T = "int" ∨ T = "bool" then some true else if T = "str" ∨ T = "tuple" ∨ T = "list" ∨ T = "dict" then some false else none
  | .int _, T => if T = "int" then some true else if T = "bool" ∨ T = "str" ∨ T = "tuple" ∨ T = "list" ∨ T = "dict" then some false else none
  | .str _, T => if T = "str" then some true else if T = "int" ∨ T = "bool" ∨ T = "tuple" ∨ T = "list" ∨ T = "dict" then some false else none
  | .tup _, T => if T = "tuple" then some true else if T = "int" ∨ T = "bool" ∨ T = "str" ∨ T = "list" ∨ T = "dict" then some false else none
  | .lst _, T => if T = "list" then some true else if T = "int" ∨ T = "bool" ∨ T = "str" ∨ T = "tuple" ∨ T = "dict" then some false else none
  | .ref p, T => match M p with
    | some (.lst _) => if T = "list" then some true else if T = "int" ∨ T = "bool" ∨ T = "str" ∨ T = "tuple" ∨ T = "dict" then some false else none
    | some (.dK _) => if T = "dict" then some true else if T = "int" ∨ T = "bool" ∨ T = "str" ∨ T = "tuple" ∨ T = "list" then some false else none
    | _ => none
  | .ty _, _ => none
def seqV (M : Mo) : D → Option (List D)
  | .tup ds => some ds | .lst ds => some ds
  | .ref p => match M p with | some (.lst ds) => some ds | _ => none
  | _ => none
inductive Bi where
  | abs | max | min | int | len | tuple | list (m : Bool) | isinst
  deriving DecidableEq
def Bi.name : Bi → Str
  | .abs => "abs" | .max => "max" | .min => "min" | .int => "int" | .len => "len" | .tuple => "tuple" | .list _ => "list" | .isinst => "isinstance"
def Bi.val (M : Mo) : Bi → List D → Option D
  | .abs, [.int i] => some (.int (if i < 0 then -i else i))
  | .max, [.int i, .int j] => some (.int (if j > i then j else i))
  | .min, [.int i, .int j] => some (.int (if j < i then j else i))
  | .int, [.int i] => some (.int i)
  | .int, [.bl k] => some (.int (if k then 1 else 0))
  | .len, [.str x] => if x.length ≤ 16777216 then some (.int x.length) else none
  | .len, [d] => (seqV M d).map fun ds => .int ds.length
  | .tuple, [d] => (seqV M d).map .tup
  | .list false, [d] => (seqV M d).map .lst
  | .isinst, [d, .ty T] => (instI M d T).map .bl
  | _, _ => none
def Bi.wp (b : Bi) (ds : List D) (M : Mo) (Q : QE) : Prop := match b with
  | .list true => ∃ d xs, ds = [d] ∧ seqV M d = some xs ∧ ∀ p, M p = none → Q (.ref p) (updM M p (.lst xs))
  | b => ∃ d, b.val M ds = some d ∧ Q d M
end Vp
namespace Vp
open PySem PySem.Spec PyProof.Rows L2

/-- an operation by data is sound -/
def OpL (K : PySem.W.Frag) (r : R2) (f : D → D → Mo → QE → Prop) : Prop := ∀ (x y : V) (d1 d2 : D) (F H : Hp) (M : Mo) (Q : VK) (Q' : QE), Sat K F H M → Rep K F x d1 → Rep K F y d2 → f d1 d2 M Q' → PV K F M H Q Q' → r x y H Q
/-- what a data operation gives -/
def fOp (g : D → D → Option D) : D → D → Mo → QE → Prop := fun a b M Q => ∃ d, g a b = some d ∧ Q d M
def fCmp (g : D → D → Option Bool) : D → D → Mo → QE → Prop := fun a b M Q => ∃ k, g a b = some k ∧ Q (.bl k) M
section
variable {K : PySem.W.Frag} {F H : Hp} {M : Mo} {Q : VK} {Q' : QE}
theorem PV.here (s : Sat K F H M) (p : PV K F M H Q Q') {d : D} {v : V} (q : Q' d M) (r : Rep K F v d) : Q v H := p d M q F H v (Step.refl s) r
/-- a new object, by value -/
theorem PV.fresh (s : Sat K F H M) (p : PV K F M H Q Q') {d : D} {a : Addr} {o : HO} (q : Q' d M) (h : H a = none) (r : Rep K (upd F a o) (.ref a) d) : Q (.ref a) (upd H a o) := p d M q _ _ _ (s.newF h o) r
/-- a new object that may change -/
theorem PV.freshM (s : Sat K F H M) (p : PV K F M H Q Q') {a : Addr} {o : HO} {mo : MO} (q : ∀ p, M p = none → Q' (.ref p) (updM M p mo)) (h : H a = none) (r : RepO K F o mo) : Q (.ref a) (upd H a o) := p _ _ (q a (s.none h).2) _ _ _ (s.newM h r) (.ref a)
theorem new_tup (s : Sat K F H M) {a : Addr} {xs : List V} {ds : List D} (h : H a = none) (r : RepL K F xs ds) : Rep K (upd F a (.tup xs)) (.ref a) (.tup ds) := .tup (SqT.of upd_same) (r.mono ((Ex.refl F).new (s.none h).1))
theorem new_lst (s : Sat K F H M) {a : Addr} {xs : List V} {ds : List D} (h : H a = none) (r : RepL K F xs ds) : Rep K (upd F a (.lst xs)) (.ref a) (.lst ds) := .lst (SqL.of upd_same) (r.mono ((Ex.refl F).new (s.none h).1))
end
theorem szl {n : Nat} (h : n ≤ 16777216) : n ≤ sizeLine := by rw [sizeLine_eq]; exact h

section
variable {K : PySem.W.Frag}
theorem opl_int {op : Operator} {g : Int → Int → V} {f : Int → Int → D} (hb : ∀ i j d, binV op (.int i) (.int j) = some d → d = f i j) (hr : ∀ F i j, Rep K F (g i j) (f i j)) {x y : V} {i j : Int} {F H : Hp} {M : Mo} {Q : VK} {Q' : QE} (s : Sat K F H M) (rx : Rep K F x (.int i)) (ry : Rep K F y (.int j))
    (h : fOp (binV op) (.int i) (.int j) M Q') (p : PV K F M H Q Q') : x = .int i ∧ y = .int j ∧ Q (g i j) H := by
  obtain ⟨d, e, q⟩ := h
  cases rx; cases ry
  obtain rfl := hb i j d e
  exact ⟨rfl, rfl, p.here s q (hr F i j)⟩
theorem opl_add : OpL K (fun x y H Q => rI0 (fun i j => .int (i + j)) x y H Q ∨ (fun x y H Q => ∃ i j, x = .str i ∧ y = .str j ∧ i.length + j.length ≤ sizeLine ∧ Q (.str (i ++ j)) H) x y H Q ∨ rCatA K x y H Q) (fOp (binV .Add)) := by
  intro x y d1 d2 F H M Q Q' s rx ry h p
  cases rx with
  | int i =>
    cases ry with
    | int j =>
      obtain ⟨d, e, q⟩ := h
      cases e
      exact .inl ⟨i, j, rfl, rfl, p.here s q (.int _)⟩
    | _ => obtain ⟨d, e, q⟩ := h; cases e
  | str i =>
    cases ry with
    | str j =>
      obtain ⟨d, e, q⟩ := h
      simp only [binV] at e
      split at e
      · rename_i hz
        cases e
        exact .inr (.inl ⟨i, j, rfl, rfl, szl hz, p.here s q (.str _)⟩)
      · cases e
    | _ => obtain ⟨d, e, q⟩ := h; cases e
  | @tup a xs ds h1 r1 =>
    cases ry with
    | @tup b ys es h2 r2 =>
      obtain ⟨d, e, q⟩ := h
      simp only [binV] at e
      split at e
      · rename_i hz
        cases e
        refine .inr (.inr ⟨a, b, xs, ys, rfl, rfl, ex_t s.ex h1, ex_t s.ex h2, szl (by rw [r1.length, r2.length]; exact hz), fun e => ?_, fun _ e => ?_, fun _ _ c hc => ?_⟩)
        · subst e
          cases r1
          exact p.here s q (.tup h2 r2)
        · subst e
          cases r2
          rw [List.append_nil] at q
          exact p.here s q (.tup h1 r1)
        · exact p.fresh s q hc (new_tup s hc (r1.append r2))
      · cases e
    | _ => obtain ⟨d, e, q⟩ := h; cases e
  | _ => obtain ⟨d, e, q⟩ := h; cases e
theorem opl_sub : OpL K (rI0 fun i j => .int (i - j)) (fOp (binV .Sub)) := by
  intro x y d1 d2 F H M Q Q' s rx ry h p
  obtain ⟨d, e, q⟩ := h
  cases rx <;> first | (cases e; done) | skip
  cases ry <;> first | (cases e; done) | skip
  cases e
  exact ⟨_, _, rfl, rfl, p.here s q (.int _)⟩
theorem opl_mul : OpL K (rI CMul fun i j => .int (i * j)) (fOp (binV .Mult)) := by
  intro x y d1 d2 F H M Q Q' s rx ry h p
  obtain ⟨d, e, q⟩ := h
  cases rx <;> first | (cases e; done) | skip
  cases ry <;> first | (cases e; done) | skip
  simp only [binV] at e
  split at e
  · rename_i hz
    cases e
    exact ⟨_, _, rfl, rfl, hz, p.here s q (.int _)⟩
  · cases e
theorem opl_fdiv : OpL K (rI CDivN fun i j => .int (i.fdiv j)) (fOp (binV .FloorDiv)) := by
  intro x y d1 d2 F H M Q Q' s rx ry h p
  obtain ⟨d, e, q⟩ := h
  cases rx <;> first | (cases e; done) | skip
  cases ry <;> first | (cases e; done) | skip
  simp only [binV] at e
  split at e
  · rename_i hz
    cases e
    exact ⟨_, _, rfl, rfl, hz, p.here s q (.int _)⟩
  · cases e
theorem opl_mod : OpL K (rI (fun _ j => j ≠ 0) fun i j => .int (i.fmod j)) (fOp (binV .Mod)) := by
  intro x y d1 d2 F H M Q Q' s rx ry h p
  obtain ⟨d, e, q⟩ := h
  cases rx <;> first | (cases e; done) | skip
  cases ry <;> first | (cases e; done) | skip
  simp only [binV] at e
  split at e
  · rename_i hz
    cases e
    exact ⟨_, _, rfl, rfl, hz, p.here s q (.int _)⟩
  · cases e
theorem opl_pow : OpL K (rI CPow fun i j => .int (i ^ j.toNat)) (fOp (binV .Pow)) := by
  intro x y d1 d2 F H M Q Q' s rx ry h p
  obtain ⟨d, e, q⟩ := h
  cases rx <;> first | (cases e; done) | skip
  cases ry <;> first | (cases e; done) | skip
  simp only [binV] at e
  split at e
  · rename_i hz
    cases e
    exact ⟨_, _, rfl, rfl, hz, p.here s q (.int _)⟩
  · cases e
def supB : Operator → Bool | .Add | .Sub | .Mult | .FloorDiv | .Mod | .Pow => true | _ => false
def supC : CmpOp → Bool | .Eq | .NotEq | .Is | .IsNot | .Lt | .LtE | .Gt | .GtE => true | _ => false
theorem binop_ok {X : Cx} {op : Operator} (h : supB op = true) : ∃ r, OpR X (binaryOp op) r ∧ OpL X.K r (fOp (binV op)) := by
  cases op with
  | Add => exact ⟨_, op_add.or (op_add_str.or op_catA), opl_add⟩
  | Sub => exact ⟨_, op_sub, opl_sub⟩
  | Mult => exact ⟨_, op_mul, opl_mul⟩
  | FloorDiv => exact ⟨_, op_fdivN, opl_fdiv⟩
  | Mod => exact ⟨_, op_modN, opl_mod⟩
  | Pow => exact ⟨_, op_pow, opl_pow⟩
  | _ => cases h
end

/-! comparisons -/
section
variable {K : PySem.W.Frag}
theorem opl_lt : OpL K (rI0 fun i j => .bl (decide (i < j))) (fCmp (cmpV .Lt)) := by
  intro x y d1 d2 F H M Q Q' s rx ry h p
  obtain ⟨d, e, q⟩ := h
  cases rx <;> first | (cases e; done) | skip
  cases ry <;> first | (cases e; done) | skip
  cases e
  exact ⟨_, _, rfl, rfl, p.here s q (.bl _)⟩
theorem opl_le : OpL K (rI0 fun i j => .bl (decide (i ≤ j))) (fCmp (cmpV .LtE)) := by
  intro x y d1 d2 F H M Q Q' s rx ry h p
  obtain ⟨d, e, q⟩ := h
  cases rx <;> first | (cases e; done) | skip
  cases ry <;> first | (cases e; done) | skip
  cases e
  exact ⟨_, _, rfl, rfl, p.here s q (.bl _)⟩
theorem opl_gt : OpL K (rI0 fun i j => .bl (decide (j < i))) (fCmp (cmpV .Gt)) := by
  intro x y d1 d2 F H M Q Q' s rx ry h p
  obtain ⟨d, e, q⟩ := h
  cases rx <;> first | (cases e; done) | skip
  cases ry <;> first | (cases e; done) | skip
  cases e
  exact ⟨_, _, rfl, rfl, p.here s q (.bl _)⟩
theorem opl_ge : OpL K (rI0 fun i j => .bl (decide (j ≤ i))) (fCmp (cmpV .GtE)) := by
  intro x y d1 d2 F H M Q Q' s rx ry h p
  obtain ⟨d, e, q⟩ := h
  cases rx <;> first | (cases e; done) | skip
  cases ry <;> first | (cases e; done) | skip
  cases e
  exact ⟨_, _, rfl, rfl, p.here s q (.bl _)⟩
theorem dec_V {α : Type} [DecidableEq α] {f : α → V} (hf : ∀ a b, f a = f b → a = b) (a b : α) : decide (f a = f b) = decide (a = b) := by
  by_cases h : a = b
  · subst h; simp
  · rw [decide_eq_false h, decide_eq_false fun z => h (hf _ _ z)]
/-- equality: scalars, or data of any depth -/
theorem eq_cases {F H : Hp} {M : Mo} (s : Sat K F H M) {x y : V} {a b : D} (rx : Rep K F x a) (ry : Rep K F y b) {k : Bool} (h : cmpEq a b = some k) :
    (scal x y = true ∧ decide (x = y) = k) ∨ ∃ d e, Dp K H x d ∧ Dp K H y e ∧ SeqAt.shaped d = true ∧ SeqAt.shaped e = true ∧ PyData.eqv d e = k := by
  have deep : (if (eqOk a && eqOk b) = true then some (PyData.eqv (toPy a) (toPy b)) else none) = some k → (scal x y = true ∧ decide (x = y) = k) ∨ ∃ d e, Dp K H x d ∧ Dp K H y e ∧ SeqAt.shaped d = true ∧ SeqAt.shaped e = true ∧ PyData.eqv d e = k := fun h => by
    split at h
    · rename_i hz
      obtain ⟨z1, z2⟩ := Bool.and_eq_true_iff.mp hz
      obtain ⟨p1, s1⟩ := Bool.and_eq_true_iff.mp z1
      obtain ⟨p2, s2⟩ := Bool.and_eq_true_iff.mp z2
      exact .inr ⟨_, _, rx.dp s.ex p1, ry.dp s.ex p2, s1, s2, Option.some.inj h⟩
    · cases h
  cases rx <;> cases ry <;> first
    | exact deep h
    | (refine .inl ⟨rfl, ?_⟩
       have h' := Option.some.inj h
       rw [← h']
       first | exact dec_V (fun _ _ z => V.int.inj z) _ _ | exact dec_V (fun _ _ z => V.bl.inj z) _ _ | exact dec_V (fun _ _ z => V.str.inj z) _ _ | exact decide_eq_true rfl | (exact decide_eq_false (fun z => nomatch z)))
theorem opl_eq : OpL K (fun x y H Q => rEq x y H Q ∨ rEqD K x y H Q) (fCmp (cmpV .Eq)) := by
  intro x y d1 d2 F H M Q Q' s rx ry h p
  obtain ⟨k, e, q⟩ := h
  rcases eq_cases s rx ry e with ⟨h1, h2⟩ | ⟨d, e, a1, a2, a3, a4, a5⟩
  · exact .inl ⟨h1, by rw [h2]; exact p.here s q (.bl _)⟩
  · exact .inr ⟨d, e, a1, a2, a3, a4, by rw [a5]; exact p.here s q (.bl _)⟩
theorem opl_ne : OpL K (fun x y H Q => rNe x y H Q ∨ rNeD K x y H Q) (fCmp (cmpV .NotEq)) := by
  intro x y d1 d2 F H M Q Q' s rx ry h p
  obtain ⟨k, e, q⟩ := h
  have e : (cmpEq d1 d2).map not = some k := e
  cases e1 : cmpEq d1 d2 with
  | none => rw [e1] at e; cases e
  | some k' =>
    rw [e1] at e; cases e
    rcases eq_cases s rx ry e1 with ⟨h1, h2⟩ | ⟨d, e, a1, a2, a3, a4, a5⟩
    · exact .inl ⟨h1, by rw [h2]; exact p.here s q (.bl _)⟩
    · exact .inr ⟨d, e, a1, a2, a3, a4, by rw [a5]; exact p.here s q (.bl _)⟩
theorem is_cases {F : Hp} {x y : V} {a b : D} (rx : Rep K F x a) (ry : Rep K F y b) {k : Bool} (h : cmpIs a b = some k) :
    (y = .non ∧ decide (x = .non) = k) ∨ ∃ i j : Bool, x = .bl i ∧ y = .bl j ∧ decide (i = j) = k := by
  cases rx <;> cases ry <;> first
    | (cases h; done)
    | exact .inr ⟨_, _, rfl, rfl, Option.some.inj h⟩
    | (refine .inl ⟨rfl, ?_⟩
       have h' := Option.some.inj h
       rw [← h']
       first | exact decide_eq_true rfl | exact decide_eq_false (fun z => nomatch z))
theorem opl_is : OpL K (fun x y H Q => (y = .non ∧ Q (.bl (decide (x = .non))) H) ∨ rIsB x y H Q) (fCmp (cmpV .Is)) := by
  intro x y d1 d2 F H M Q Q' s rx ry h p
  obtain ⟨k, e, q⟩ := h
  rcases is_cases rx ry e with ⟨h1, h2⟩ | ⟨i, j, h1, h2, h3⟩
  · exact .inl ⟨h1, by rw [h2]; exact p.here s q (.bl _)⟩
  · exact .inr ⟨i, j, h1, h2, by rw [h3]; exact p.here s q (.bl _)⟩
theorem opl_isnot : OpL K (fun x y H Q => (y = .non ∧ Q (.bl (!decide (x = .non))) H) ∨ rNotB x y H Q) (fCmp (cmpV .IsNot)) := by
  intro x y d1 d2 F H M Q Q' s rx ry h p
  obtain ⟨k, e, q⟩ := h
  have e : (cmpIs d1 d2).map not = some k := e
  cases e1 : cmpIs d1 d2 with
  | none => rw [e1] at e; cases e
  | some k' =>
    rw [e1] at e; cases e
    rcases is_cases rx ry e1 with ⟨h1, h2⟩ | ⟨i, j, h1, h2, h3⟩
    · exact .inl ⟨h1, by rw [h2]; exact p.here s q (.bl _)⟩
    · exact .inr ⟨i, j, h1, h2, by rw [h3]; exact p.here s q (.bl _)⟩
theorem cmpop_ok {X : Cx} (hu : X.A.units + 64 < cLine) {op : CmpOp} (h : supC op = true) : ∃ r, OpR X (compareOp op) r ∧ OpL X.K r (fCmp (cmpV op)) := by
  cases op with
  | Eq => exact ⟨_, op_eq.or (op_eqD hu), opl_eq⟩
  | NotEq => exact ⟨_, op_ne.or (op_neD hu), opl_ne⟩
  | Is => exact ⟨_, op_isN.or op_isBl, opl_is⟩
  | IsNot => exact ⟨_, op_notN.or op_notBl, opl_isnot⟩
  | Lt => exact ⟨_, op_lt, opl_lt⟩
  | LtE => exact ⟨_, op_le, opl_le⟩
  | Gt => exact ⟨_, op_gt, opl_gt⟩
  | GtE => exact ⟨_, op_ge, opl_ge⟩
  | _ => cases h
/-- truth -/
theorem tru_rep {F H : Hp} {M : Mo} (s : Sat K F H M) {x : V} {d : D} (r : Rep K F x d) {k : Bool} (h : truD M d = some k) : TruV K x H k := by
  have emp : ∀ {xs : List V} {ds : List D}, RepL K F xs ds → (!ds.isEmpty) = !xs.isEmpty := fun r => by cases r <;> rfl
  cases r with
  | non => exact (Option.some.inj h).symm
  | bl b => exact (Option.some.inj h).symm
  | int i => exact (Option.some.inj h).symm
  | str y =>
    simp only [truD] at h
    split at h
    · rename_i hz
      exact ⟨szl hz, (Option.some.inj h).symm⟩
    · cases h
  | @tup a xs ds h1 r1 => exact .inr (.inl ⟨xs, ex_t s.ex h1, by rw [← Option.some.inj h]; exact emp r1⟩)
  | @lst a xs ds h1 r1 => exact .inl ⟨xs, ex_l s.ex h1, by rw [← Option.some.inj h]; exact emp r1⟩
  | ref a =>
    simp only [truD] at h
    cases e : M a with
    | none => rw [e] at h; cases h
    | some mo =>
      rw [e] at h
      obtain ⟨_, ho, h1, r1⟩ := s.m a mo e
      cases mo with
      | lst ds =>
        obtain ⟨xs, rfl, r2⟩ := r1
        exact .inl ⟨xs, SqL.of h1, by rw [← Option.some.inj h]; exact emp r2⟩
      | dK kvs =>
        obtain ⟨ws, rfl, hk, r2⟩ := r1
        refine .inr (.inr ⟨ws, h1, ?_⟩)
        rw [← Option.some.inj h]
        cases ws <;> cases kvs <;> simp_all
      | ins C fs => cases h
  | ty n => cases h
/-- a list or tuple, by its items -/
theorem seq_rep {F H : Hp} {M : Mo} (s : Sat K F H M) {x : V} {d : D} (r : Rep K F x d) {ds : List D} (h : seqV M d = some ds) : ∃ a xs, x = .ref a ∧ RepL K F xs ds ∧ (SqL K H a xs ∨ (SqT K H a xs ∧ d = .tup ds)) := by
  cases r with
  | @tup a xs es h1 r1 => cases h; exact ⟨a, xs, rfl, r1, .inr ⟨ex_t s.ex h1, rfl⟩⟩
  | @lst a xs es h1 r1 => cases h; exact ⟨a, xs, rfl, r1, .inl (ex_l s.ex h1)⟩
  | ref a =>
    simp only [seqV] at h
    cases e : M a with
    | none => rw [e] at h; cases h
    | some mo =>
      rw [e] at h
      obtain ⟨_, ho, h1, r1⟩ := s.m a mo e
      cases mo with
      | lst es =>
        cases h
        obtain ⟨xs, rfl, r2⟩ := r1
        exact ⟨a, xs, rfl, r2, .inl (SqL.of h1)⟩
      | dK kvs => cases h
      | ins C fs => cases h
  | _ => cases h
theorem at_rep {F : Hp} {xs : List V} {ds : List D} (r : RepL K F xs ds) {i : Int} {d : D} (h : atI ds i = some d) : ∃ v, atI xs i = some v ∧ Rep K F v d := by
  unfold atI at h ⊢
  rw [← r.length] at h
  cases e : ixN xs.length i with
  | none => rw [e] at h; cases h
  | some j =>
    rw [e] at h
    obtain ⟨v, h1, h2⟩ := r.get (show ds[j]? = some d from h)
    exact ⟨v, h1, h2⟩
/-- a[i] -/
theorem opl_ix : OpL K (rIx K) (fun a b M Q => ∃ d, ixV M a b = some d ∧ Q d M) := by
  intro x y d1 d2 F H M Q Q' s rx ry h p
  obtain ⟨d, e, q⟩ := h
  cases ry with
  | int i =>
    cases rx with
    | @tup a xs ds h1 r1 =>
      obtain ⟨v, hv, rv⟩ := at_rep r1 (show atI ds i = some d from e)
      exact .inr (.inl ⟨a, xs, i, v, rfl, rfl, ex_t s.ex h1, hv, p.here s q rv⟩)
    | @lst a xs ds h1 r1 =>
      obtain ⟨v, hv, rv⟩ := at_rep r1 (show atI ds i = some d from e)
      exact .inl ⟨a, xs, i, v, rfl, rfl, ex_l s.ex h1, hv, p.here s q rv⟩
    | str z =>
      simp only [ixV] at e
      split at e
      · rename_i hz
        cases e1 : atI z.cps.toList i with
        | none => rw [e1] at e; cases e
        | some c =>
          rw [e1] at e; cases e
          exact .inr (.inr ⟨z, i, c, rfl, rfl, szl hz, e1, p.here s q (.str _)⟩)
      · cases e
    | ref a =>
      simp only [ixV] at e
      cases e2 : M a with
      | none => rw [e2] at e; cases e
      | some mo =>
        rw [e2] at e
        obtain ⟨_, ho, h1, r1⟩ := s.m a mo e2
        cases mo with
        | lst es =>
          obtain ⟨xs, rfl, r2⟩ := r1
          obtain ⟨v, hv, rv⟩ := at_rep r2 (show atI es i = some d from e)
          exact .inl ⟨a, xs, i, v, rfl, rfl, SqL.of h1, hv, p.here s q rv⟩
        | dK kvs => cases e
        | ins C fs => cases e
    | _ => cases e
  | _ => cases rx <;> cases e
end
end Vp
namespace Vp
open PySem PySem.Spec PyProof.Rows L2

/-! ### built-in functions by data -/
def CallL (K : PySem.W.Frag) (r : List V → Hp → VK → Prop) (f : List D → Mo → QE → Prop) : Prop := ∀ (vs : List V) (ds : List D) (F H : Hp) (M : Mo) (Q : VK) (Q' : QE), Sat K F H M → RepL K F vs ds → f ds M Q' → PV K F M H Q Q' → r vs H Q
section
variable {K : PySem.W.Frag} {F H : Hp} {M : Mo} {Q : VK} {Q' : QE}
theorem RepL.one {vs : List V} {d : D} (r : RepL K F vs [d]) : ∃ v, vs = [v] ∧ Rep K F v d := by
  cases r with
  | cons h t => cases t; exact ⟨_, rfl, h⟩
theorem RepL.two {vs : List V} {d e : D} (r : RepL K F vs [d, e]) : ∃ v w, vs = [v, w] ∧ Rep K F v d ∧ Rep K F w e := by
  cases r with
  | cons h t =>
    obtain ⟨w, rfl, h2⟩ := RepL.one t
    exact ⟨_, _, rfl, h, h2⟩
theorem bi_wp {b : Bi} {ds : List D} (h : b.wp ds M Q') (hb : b ≠ .list true) : ∃ d, b.val M ds = some d ∧ Q' d M := by
  cases b with
  | list m =>
    cases m with
    | true => exact absurd rfl hb
    | false => exact h
  | _ => exact h
theorem abs_inv {ds : List D} {d : D} (h : Bi.val M .abs ds = some d) : ∃ i, ds = [.int i] ∧ d = .int (if i < 0 then -i else i) := by
  rcases ds with _ | ⟨x, _ | ⟨y, r⟩⟩
  · cases h
  · cases x <;> first | (cases h; done) | exact ⟨_, rfl, (Option.some.inj h).symm⟩
  · cases x <;> cases h
theorem max_inv {ds : List D} {d : D} (h : Bi.val M .max ds = some d) : ∃ i j, ds = [.int i, .int j] ∧ d = .int (if j > i then j else i) := by
  rcases ds with _ | ⟨x, _ | ⟨y, _ | ⟨z, r⟩⟩⟩
  · cases h
  · cases x <;> cases h
  · cases x <;> cases y <;> first | (cases h; done) | exact ⟨_, _, rfl, (Option.some.inj h).symm⟩
  · cases x <;> cases y <;> cases h
theorem min_inv {ds : List D} {d : D} (h : Bi.val M .min ds = some d) : ∃ i j, ds = [.int i, .int j] ∧ d = .int (if j < i then j else i) := by
  rcases ds with _ | ⟨x, _ | ⟨y, _ | ⟨z, r⟩⟩⟩
  · cases h
  · cases x <;> cases h
  · cases x <;> cases y <;> first | (cases h; done) | exact ⟨_, _, rfl, (Option.some.inj h).symm⟩
  · cases x <;> cases y <;> cases h
theorem int_inv {ds : List D} {d : D} (h : Bi.val M .int ds = some d) : (∃ i, ds = [.int i] ∧ d = .int i) ∨ ∃ k, ds = [.bl k] ∧ d = .int (if k then 1 else 0) := by
  rcases ds with _ | ⟨x, _ | ⟨y, r⟩⟩
  · cases h
  · cases x <;> first | (cases h; done) | exact .inl ⟨_, rfl, (Option.some.inj h).symm⟩ | exact .inr ⟨_, rfl, (Option.some.inj h).symm⟩
  · cases x <;> cases h
theorem len_inv {ds : List D} {d : D} (h : Bi.val M .len ds = some d) : (∃ x, ds = [.str x] ∧ x.length ≤ 16777216 ∧ d = .int x.length) ∨ ∃ e xs, ds = [e] ∧ seqV M e = some xs ∧ d = .int xs.length := by
  rcases ds with _ | ⟨x, _ | ⟨y, r⟩⟩
  · cases h
  · have gen : ((seqV M x).map fun ds => D.int ds.length) = some d → ∃ e xs, [x] = [e] ∧ seqV M e = some xs ∧ d = .int xs.length := fun h => by
      cases e : seqV M x with
      | none => rw [e] at h; cases h
      | some xs => rw [e] at h; exact ⟨x, xs, rfl, e, (Option.some.inj h).symm⟩
    cases x <;> first
      | exact .inr (gen h)
      | (simp only [Bi.val] at h
         split at h
         · rename_i hz; exact .inl ⟨_, rfl, hz, (Option.some.inj h).symm⟩
         · cases h)
  · cases x <;> cases h
theorem tuple_inv {ds : List D} {d : D} (h : Bi.val M .tuple ds = some d) : ∃ e xs, ds = [e] ∧ seqV M e = some xs ∧ d = .tup xs := by
  rcases ds with _ | ⟨x, _ | ⟨y, r⟩⟩
  · cases h
  · have h : (seqV M x).map D.tup = some d := h
    cases e : seqV M x with
    | none => rw [e] at h; cases h
    | some xs => rw [e] at h; exact ⟨x, xs, rfl, e, (Option.some.inj h).symm⟩
  · cases x <;> cases h
theorem list_inv {ds : List D} {d : D} (h : Bi.val M (.list false) ds = some d) : ∃ e xs, ds = [e] ∧ seqV M e = some xs ∧ d = .lst xs := by
  rcases ds with _ | ⟨x, _ | ⟨y, r⟩⟩
  · cases h
  · have h : (seqV M x).map D.lst = some d := h
    cases e : seqV M x with
    | none => rw [e] at h; cases h
    | some xs => rw [e] at h; exact ⟨x, xs, rfl, e, (Option.some.inj h).symm⟩
  · cases x <;> cases h
theorem isinst_inv {ds : List D} {d : D} (h : Bi.val M .isinst ds = some d) : ∃ e T b, ds = [e, .ty T] ∧ instI M e T = some b ∧ d = .bl b := by
  rcases ds with _ | ⟨x, _ | ⟨y, _ | ⟨z, r⟩⟩⟩
  · cases h
  · cases x <;> cases h
  · cases y <;> first
      | (cases x <;> cases h; done)
      | (rename_i T
         have h : (instI M x T).map D.bl = some d := by cases x <;> exact h
         cases e : instI M x T with
         | none => rw [e] at h; cases h
         | some b => rw [e] at h; exact ⟨x, T, b, rfl, e, (Option.some.inj h).symm⟩)
  · cases y <;> cases x <;> cases h
end
section
variable {K : PySem.W.Frag}
theorem cl_abs : CallL K (fun xs H Q => ∃ i, xs = [.int i] ∧ Q (.int (if i < 0 then -i else i)) H) Bi.abs.wp := by
  intro vs ds F H M Q Q' s r h p
  obtain ⟨d, e, q⟩ := bi_wp h (by decide)
  obtain ⟨i, rfl, rfl⟩ := abs_inv e
  obtain ⟨v, rfl, rv⟩ := r.one
  cases rv
  exact ⟨i, rfl, p.here s q (.int _)⟩
theorem cl_max : CallL K (fun xs H Q => ∃ i j, xs = [.int i, .int j] ∧ Q (.int (if j > i then j else i)) H) Bi.max.wp := by
  intro vs ds F H M Q Q' s r h p
  obtain ⟨d, e, q⟩ := bi_wp h (by decide)
  obtain ⟨i, j, rfl, rfl⟩ := max_inv e
  obtain ⟨v, w, rfl, rv, rw'⟩ := r.two
  cases rv; cases rw'
  exact ⟨i, j, rfl, p.here s q (.int _)⟩
theorem cl_min : CallL K (fun xs H Q => ∃ i j, xs = [.int i, .int j] ∧ Q (.int (if j < i then j else i)) H) Bi.min.wp := by
  intro vs ds F H M Q Q' s r h p
  obtain ⟨d, e, q⟩ := bi_wp h (by decide)
  obtain ⟨i, j, rfl, rfl⟩ := min_inv e
  obtain ⟨v, w, rfl, rv, rw'⟩ := r.two
  cases rv; cases rw'
  exact ⟨i, j, rfl, p.here s q (.int _)⟩
theorem cl_int : CallL K (fun xs H Q => (∃ i, xs = [.int i] ∧ Q (.int i) H) ∨ ∃ k, xs = [.bl k] ∧ Q (.int (if k then 1 else 0)) H) Bi.int.wp := by
  intro vs ds F H M Q Q' s r h p
  obtain ⟨d, e, q⟩ := bi_wp h (by decide)
  rcases int_inv e with ⟨i, rfl, rfl⟩ | ⟨i, rfl, rfl⟩
  · obtain ⟨v, rfl, rv⟩ := r.one
    cases rv
    exact .inl ⟨i, rfl, p.here s q (.int _)⟩
  · obtain ⟨v, rfl, rv⟩ := r.one
    cases rv
    exact .inr ⟨i, rfl, p.here s q (.int _)⟩
theorem cl_len : CallL K (fun xs H Q => (∃ z, xs = [.str z] ∧ z.length ≤ sizeLine ∧ Q (.int z.length) H) ∨ ∃ p ys, xs = [.ref p] ∧ (SqL K H p ys ∨ SqT K H p ys) ∧ Q (.int ys.length) H) Bi.len.wp := by
  intro vs ds F H M Q Q' s r h p
  obtain ⟨d, e, q⟩ := bi_wp h (by decide)
  rcases len_inv e with ⟨x, rfl, hz, rfl⟩ | ⟨e, xs, rfl, hs, rfl⟩
  · obtain ⟨v, rfl, rv⟩ := r.one
    cases rv
    exact .inl ⟨x, rfl, szl hz, p.here s q (.int _)⟩
  · obtain ⟨v, rfl, rv⟩ := r.one
    obtain ⟨a, ys, rfl, r2, hh⟩ := seq_rep s rv hs
    refine .inr ⟨a, ys, rfl, hh.imp id (·.1), ?_⟩
    rw [r2.length]
    exact p.here s q (.int _)
theorem cl_tuple : CallL K (fun xs H Q => ∃ p ys, xs = [.ref p] ∧ ((SqL K H p ys ∧ ∀ l, H l = none → Q (.ref l) (upd H l (.tup ys))) ∨ (SqT K H p ys ∧ Q (.ref p) H))) Bi.tuple.wp := by
  intro vs ds F H M Q Q' s r h p
  obtain ⟨d, e, q⟩ := bi_wp h (by decide)
  obtain ⟨e, xs, rfl, hs, rfl⟩ := tuple_inv e
  obtain ⟨v, rfl, rv⟩ := r.one
  obtain ⟨a, ys, rfl, r2, hh⟩ := seq_rep s rv hs
  rcases hh with hh | ⟨hh, hd⟩
  · exact ⟨a, ys, rfl, .inl ⟨hh, fun l hl => p.fresh s q hl (new_tup s hl r2)⟩⟩
  · subst hd
    exact ⟨a, ys, rfl, .inr ⟨hh, p.here s q rv⟩⟩
theorem cl_list {m : Bool} : CallL K (fun xs H Q => ∃ p ys, xs = [.ref p] ∧ (SqL K H p ys ∨ SqT K H p ys) ∧ ∀ l, H l = none → Q (.ref l) (upd H l (.lst ys))) (Bi.list m).wp := by
  intro vs ds F H M Q Q' s r h p
  cases m with
  | false =>
    obtain ⟨d, e, q⟩ := bi_wp h (by decide)
    obtain ⟨e, xs, rfl, hs, rfl⟩ := list_inv e
    obtain ⟨v, rfl, rv⟩ := r.one
    obtain ⟨a, ys, rfl, r2, hh⟩ := seq_rep s rv hs
    exact ⟨a, ys, rfl, hh.imp id (·.1), fun l hl => p.fresh s q hl (new_lst s hl r2)⟩
  | true =>
    obtain ⟨e, xs, rfl, hs, q⟩ := h
    obtain ⟨v, rfl, rv⟩ := r.one
    obtain ⟨a, ys, rfl, r2, hh⟩ := seq_rep s rv hs
    exact ⟨a, ys, rfl, hh.imp id (·.1), fun l hl => p.freshM s q hl ⟨ys, rfl, r2⟩⟩

/-! isinstance -/
def tyName (M : Mo) : D → Option String
  | .non => some "NoneType" | .bl _ => some "bool" | .int _ => some "int" | .str _ => some "str" | .tup _ => some "tuple" | .lst _ => some "list"
  | .ref p => match M p with | some (.lst _) => some "list" | some (.dK _) => some "dict" | _ => none
  | .ty _ => none
theorem ty_rep {F H : Hp} {M : Mo} (s : Sat K F H M) {x : V} {d : D} (r : Rep K F x d) {t : String} (h : tyName M d = some t) : TyX K H x (.type t) := by
  cases r with
  | non => cases h; exact .base .non
  | bl b => cases h; exact .base (.bl b)
  | int i => cases h; exact .base (.int i)
  | str y => cases h; exact .base (.str y)
  | @tup a xs ds h1 r1 =>
    cases h
    rcases ex_t s.ex h1 with (h1 | ⟨o, h1⟩) | ⟨o, its, n, h1, h2, _⟩
    · exact .base (.tup h1)
    · exact .fTuple h1
    · exact .kTuple h1 h2
  | @lst a xs ds h1 r1 =>
    cases h
    rcases ex_l s.ex h1 with (h1 | ⟨o, h1⟩) | ⟨o, its, n, h1, h2, _⟩
    · exact .base (.lst h1)
    · exact .base (.frz h1)
    · exact .kList h1 h2
  | ref a =>
    simp only [tyName] at h
    cases e : M a with
    | none => rw [e] at h; cases h
    | some mo =>
      rw [e] at h
      obtain ⟨_, ho, h1, r1⟩ := s.m a mo e
      cases mo with
      | lst ds => obtain ⟨xs, rfl, r2⟩ := r1; cases h; exact .base (.lst h1)
      | dK kvs => obtain ⟨ws, rfl, hk, r2⟩ := r1; cases h; exact .base (.dK h1)
      | ins C fs => cases h
  | ty n => cases h
def tyTab (t T : String) : Option Bool :=
  if t = T ∨ (t = "bool" ∧ T = "int") then some true else some false
theorem kit_tab {t T : String} (ht : t = "NoneType" ∨ t = "bool" ∨ t = "int" ∨ t = "str" ∨ t = "tuple" ∨ t = "list" ∨ t = "dict") (hT : T = "int" ∨ T = "bool" ∨ T = "str" ∨ T = "tuple" ∨ T = "list" ∨ T = "dict") :
    PySem.W.kitOne K (.type t) (.type T) = tyTab t T := by
  rcases ht with rfl | rfl | rfl | rfl | rfl | rfl | rfl <;> rcases hT with rfl | rfl | rfl | rfl | rfl | rfl <;> exact kit_ty (by decide +kernel)
theorem instI_ok {M : Mo} {d : D} {T : String} {b : Bool} (h : instI M d T = some b) : ∃ t, tyName M d = some t ∧ (t = "NoneType" ∨ t = "bool" ∨ t = "int" ∨ t = "str" ∨ t = "tuple" ∨ t = "list" ∨ t = "dict") ∧ (T = "int" ∨ T = "bool" ∨ T = "str" ∨ T = "tuple" ∨ T = "list" ∨ T = "dict") ∧ tyTab t T = some b := by
  have go : ∀ {t : String}, (t = "NoneType" ∨ t = "bool" ∨ t = "int" ∨ t = "str" ∨ t = "tuple" ∨ t = "list" ∨ t = "dict") → tyName M d = some t → (T = "int" ∨ T = "bool" ∨ T = "str" ∨ T = "tuple" ∨ T = "list" ∨ T = "dict") → tyTab t T = some b →
      ∃ t, tyName M d = some t ∧ (t = "NoneType" ∨ t = "bool" ∨ t = "int" ∨ t = "str" ∨ t = "tuple" ∨ t = "list" ∨ t = "dict") ∧ (T = "int" ∨ T = "bool" ∨ T = "str" ∨ T = "tuple" ∨ T = "list" ∨ T = "dict") ∧ tyTab t T = some b := fun a b c e => ⟨_, b, a, c, e⟩
  cases d with
  | non =>
    simp only [instI] at h
    split at h
    · rename_i z; cases h
      rcases z with rfl | rfl | rfl | rfl | rfl | rfl <;> exact go (t := "NoneType") (by simp) rfl (by simp) (by decide)
    · cases h
  | bl x =>
    simp only [instI] at h
    split at h
    · rename_i z; cases h
      rcases z with rfl | rfl <;> exact go (t := "bool") (by simp) rfl (by simp) (by decide)
    · split at h
      · rename_i z; cases h
        rcases z with rfl | rfl | rfl | rfl <;> exact go (t := "bool") (by simp) rfl (by simp) (by decide)
      · cases h
  | int x =>
    simp only [instI] at h
    split at h
    · rename_i z; cases h; subst z; exact go (t := "int") (by simp) rfl (by simp) (by decide)
    · split at h
      · rename_i z; cases h
        rcases z with rfl | rfl | rfl | rfl | rfl <;> exact go (t := "int") (by simp) rfl (by simp) (by decide)
      · cases h
  | str x =>
    simp only [instI] at h
    split at h
    · rename_i z; cases h; subst z; exact go (t := "str") (by simp) rfl (by simp) (by decide)
    · split at h
      · rename_i z; cases h
        rcases z with rfl | rfl | rfl | rfl | rfl <;> exact go (t := "str") (by simp) rfl (by simp) (by decide)
      · cases h
  | tup x =>
    simp only [instI] at h
    split at h
    · rename_i z; cases h; subst z; exact go (t := "tuple") (by simp) rfl (by simp) (by decide)
    · split at h
      · rename_i z; cases h
        rcases z with rfl | rfl | rfl | rfl | rfl <;> exact go (t := "tuple") (by simp) rfl (by simp) (by decide)
      · cases h
  | lst x =>
    simp only [instI] at h
    split at h
    · rename_i z; cases h; subst z; exact go (t := "list") (by simp) rfl (by simp) (by decide)
    · split at h
      · rename_i z; cases h
        rcases z with rfl | rfl | rfl | rfl | rfl <;> exact go (t := "list") (by simp) rfl (by simp) (by decide)
      · cases h
  | ref p =>
    simp only [instI] at h
    cases e : M p with
    | none => rw [e] at h; cases h
    | some mo =>
      rw [e] at h
      cases mo with
      | lst xs =>
        simp only at h
        split at h
        · rename_i z; cases h; subst z; exact go (t := "list") (by simp) (by simp only [tyName, e]) (by simp) (by decide)
        · split at h
          · rename_i z; cases h
            rcases z with rfl | rfl | rfl | rfl | rfl <;> exact go (t := "list") (by simp) (by simp only [tyName, e]) (by simp) (by decide)
          · cases h
      | dK xs =>
        simp only at h
        split at h
        · rename_i z; cases h; subst z; exact go (t := "dict") (by simp) (by simp only [tyName, e]) (by simp) (by decide)
        · split at h
          · rename_i z; cases h
            rcases z with rfl | rfl | rfl | rfl | rfl <;> exact go (t := "dict") (by simp) (by simp only [tyName, e]) (by simp) (by decide)
          · cases h
      | ins C fs => cases h
  | ty n => cases h
theorem cl_isinst : CallL K (rIsi K) Bi.isinst.wp := by
  intro vs ds F H M Q Q' s r h p
  obtain ⟨d, e, q⟩ := bi_wp h (by decide)
  obtain ⟨e, T, b, rfl, hb, rfl⟩ := isinst_inv e
  obtain ⟨v, w, rfl, rv, rw'⟩ := r.two
  cases rw'
  obtain ⟨t, h1, h2, h3, h4⟩ := instI_ok hb
  exact ⟨v, .ty T, .type t, .type T, b, rfl, .ty T, ty_rep s rv h1, by rw [kit_tab h2 h3]; exact h4, p.here s q (.bl _)⟩
end
/-- each is there under its name -/
inductive BiRun (X : Cx) (b : Bi) : Prop
  | fn (id : String) (r : List V → Hp → VK → Prop) (c : CallR X (.builtin id) r) (l : CallL X.K r b.wp) (h : bootBuiltins b.name = some (.builtin id))
  | ty (id : String) (r : List V → Hp → VK → Prop) (c : CallR X (.type id) r) (l : CallL X.K r b.wp) (h : bootBuiltins b.name = some (.type id))
theorem bi_run {X : Cx} (hc : X.calm = true) (b : Bi) : BiRun X b := by
  cases b with
  | abs => exact .fn "abs" _ call_abs cl_abs (by decide +kernel)
  | max => exact .fn "max" _ (call_max2 hc) cl_max (by decide +kernel)
  | min => exact .fn "min" _ (call_min2 hc) cl_min (by decide +kernel)
  | int => exact .ty "int" _ call_int1 cl_int (by decide +kernel)
  | len => exact .fn "len" _ (call_len_str.or call_len_seq) cl_len (by decide +kernel)
  | tuple => exact .ty "tuple" _ call_tuple_of cl_tuple (by decide +kernel)
  | list m => exact .ty "list" _ call_list_of cl_list (show bootBuiltins ("list" : Str) = some (.type "list") by decide +kernel)
  | isinst => exact .fn "isinstance" _ call_isi cl_isinst (by decide +kernel)
end Vp
namespace Vp
open PySem PySem.Spec PyProof.Rows L2

/-! ### the small language -/
mutual
inductive Tg where
  | nm (i : Nat) | tup (ts : Tgs)
inductive Tgs where
  | nil | cons (t : Tg) (r : Tgs)
end
mutual
def bindT : Tg → D → Rho → Option Rho
  | .nm i, d, ρ => some (ρ.set i (some d))
  | .tup ts, d, ρ => match d with | .tup ds => bindTs ts ds ρ | _ => none
def bindTs : Tgs → List D → Rho → Option Rho
  | .nil, ds, ρ => match ds with | [] => some ρ | _ :: _ => none
  | .cons t r, ds, ρ => match ds with | [] => none | d :: ds => match bindT t d ρ with | none => none | some ρ' => bindTs r ds ρ'
end
mutual
def slotsT : Tg → List Nat
  | .nm i => [i] | .tup ts => slotsTs ts
def slotsTs : Tgs → List Nat
  | .nil => [] | .cons t r => slotsT t ++ slotsTs r
end
mutual
inductive E where
  | var (i : Nat) | cint (i : Int) | cstr (x : Str) | cbl (b : Bool) | cnon | cty (T : String)
  | bin (op : Operator) (a b : E) | neg (a : E)
  | cmp (op : CmpOp) (a b : E) | chain (op op' : CmpOp) (a b c : E)
  | and (a b : E) | or (a b : E) | not (a : E) | ite (t : T) (a b : E)
  | tup (es : Es) | lst (m : Bool) (es : Es)
  | call (k : Nat) (es : Es) | bi (b : Bi) (es : Es)
  | ix (a b : E) | comp (m : Bool) (elt : E) (tg : Tg) (it : I) (c : To)
inductive Es where
  | nil | cons (e : E) (r : Es)
inductive T where
  | tr (e : E) | cmp (op : CmpOp) (a b : E) | chain (op op' : CmpOp) (a b c : E) | and (a b : T) | or (a b : T) | not (a : T)
inductive To where
  | none | some (t : T)
inductive I where
  | seq (e : E) | range1 (e : E) | range2 (a b : E) | zip (a b : E) | enum (e : E)
end
/-- what a def promises, by data -/
abbrev Con := List D → Mo → QE → XQ → Prop
structure Fn where
  name : Str
  n : Nat
  con : Con
def seqF : D → Option (List D)
  | .tup ds => some ds | .lst ds => some ds | _ => none
def seqL : D → Option (List D)
  | .lst ds => some ds | _ => none
def prD (x y : D) : D := .tup [x, y]
def noX : XQ := fun _ _ _ => False
/-- a comprehension over the items -/
def vComp (we : VE) (wt : Rho → Mo → (Bool → Mo → Prop) → XQ → Prop) (tg : Tg) (ρ : Rho) : List D → List D → Mo → (List D → Mo → Prop) → Prop
  | [], acc, M, Q => Q acc M
  | d :: r, acc, M, Q => ∃ ρ', bindT tg d (wipeR ρ (slotsT tg)) = some ρ' ∧ wt ρ' M (fun b M1 => if b = true then we ρ' M1 (fun y M2 => vComp we wt tg ρ r (acc ++ [y]) M2 Q) noX else vComp we wt tg ρ r acc M1 Q) noX
mutual
def vE (Γ : List Fn) : E → Rho → Mo → QE → XQ → Prop
  | .var i, ρ, M, Q, _ => ∃ d, ρ[i]? = some (some d) ∧ Q d M
  | .cint i, _, M, Q, _ => Q (.int i) M
  | .cstr x, _, M, Q, _ => Q (.str x) M
  | .cbl b, _, M, Q, _ => Q (.bl b) M
  | .cnon, _, M, Q, _ => Q .non M
  | .cty T, _, M, Q, _ => Q (.ty T) M
  | .bin op a b, ρ, M, Q, X => vE Γ a ρ M (fun x M1 => vE Γ b ρ M1 (fun y M2 => fOp (binV op) x y M2 Q) X) X
  | .neg a, ρ, M, Q, X => vE Γ a ρ M (fun x M1 => ∃ i, x = .int i ∧ Q (.int (-i)) M1) X
  | .cmp op a b, ρ, M, Q, X => vE Γ a ρ M (fun x M1 => vE Γ b ρ M1 (fun y M2 => fCmp (cmpV op) x y M2 Q) X) X
  | .chain op op' a b c, ρ, M, Q, X => vE Γ a ρ M (fun x M1 => vE Γ b ρ M1 (fun y M2 => ∃ k, cmpV op x y = some k ∧ if k = true then vE Γ c ρ M2 (fun z M3 => fCmp (cmpV op') y z M3 Q) X else Q (.bl false) M2) X) X
  | .and a b, ρ, M, Q, X => vE Γ a ρ M (fun x M1 => ∃ c, x = .bl c ∧ if c = true then vE Γ b ρ M1 Q X else Q (.bl false) M1) X
  | .or a b, ρ, M, Q, X => vE Γ a ρ M (fun x M1 => ∃ c, x = .bl c ∧ if c = true then Q (.bl true) M1 else vE Γ b ρ M1 Q X) X
  | .not a, ρ, M, Q, X => vE Γ a ρ M (fun x M1 => ∃ c, x = .bl c ∧ Q (.bl (!c)) M1) X
  | .ite t a b, ρ, M, Q, X => vT Γ t ρ M (fun c M1 => if c = true then vE Γ a ρ M1 Q X else vE Γ b ρ M1 Q X) X
  | .tup es, ρ, M, Q, X => vEs Γ es ρ M (fun ds M1 => ds.length ≤ 16777216 ∧ Q (.tup ds) M1) X
  | .lst m es, ρ, M, Q, X => vEs Γ es ρ M (fun ds M1 => ds.length ≤ 16777216 ∧ if m = true then ∀ p, M1 p = none → Q (.ref p) (updM M1 p (.lst ds)) else Q (.lst ds) M1) X
  | .call k es, ρ, M, Q, X => vEs Γ es ρ M (fun ds M1 => ∃ g, Γ[k]? = some g ∧ ds.length = g.n ∧ g.con ds M1 Q X) X
  | .bi b es, ρ, M, Q, X => vEs Γ es ρ M (fun ds M1 => b.wp ds M1 Q) X
  | .ix a b, ρ, M, Q, X => vE Γ a ρ M (fun x M1 => vE Γ b ρ M1 (fun y M2 => ∃ d, ixV M2 x y = some d ∧ Q d M2) X) X
  | .comp m elt tg it c, ρ, M, Q, X => vI Γ it ρ M (fun ds M1 => ds.length ≤ 16777216 ∧ vComp (vE Γ elt) (vTo Γ c) tg ρ ds [] M1 (fun acc M2 => if m = true then ∀ p, M2 p = none → Q (.ref p) (updM M2 p (.lst acc)) else Q (.lst acc) M2)) X
def vEs (Γ : List Fn) : Es → Rho → Mo → (List D → Mo → Prop) → XQ → Prop
  | .nil, _, M, Q, _ => Q [] M
  | .cons e r, ρ, M, Q, X => vE Γ e ρ M (fun x M1 => vEs Γ r ρ M1 (fun xs M2 => Q (x :: xs) M2) X) X
def vT (Γ : List Fn) : T → Rho → Mo → (Bool → Mo → Prop) → XQ → Prop
  | .tr e, ρ, M, Q, X => vE Γ e ρ M (fun x M1 => ∃ k, truD M1 x = some k ∧ Q k M1) X
  | .cmp op a b, ρ, M, Q, X => vE Γ a ρ M (fun x M1 => vE Γ b ρ M1 (fun y M2 => ∃ k, cmpV op x y = some k ∧ Q k M2) X) X
  | .chain op op' a b c, ρ, M, Q, X => vE Γ a ρ M (fun x M1 => vE Γ b ρ M1 (fun y M2 => ∃ k, cmpV op x y = some k ∧ if k = true then vE Γ c ρ M2 (fun z M3 => ∃ k', cmpV op' y z = some k' ∧ Q k' M3) X else Q false M2) X) X
  | .and a b, ρ, M, Q, X => vT Γ a ρ M (fun c M1 => if c = true then vT Γ b ρ M1 Q X else Q false M1) X
  | .or a b, ρ, M, Q, X => vT Γ a ρ M (fun c M1 => if c = true then Q true M1 else vT Γ b ρ M1 Q X) X
  | .not a, ρ, M, Q, X => vT Γ a ρ M (fun c M1 => Q (!c) M1) X
def vTo (Γ : List Fn) : To → Rho → Mo → (Bool → Mo → Prop) → XQ → Prop
  | .none, _, M, Q, _ => Q true M
  | .some t, ρ, M, Q, X => vT Γ t ρ M Q X
def vI (Γ : List Fn) : I → Rho → Mo → (List D → Mo → Prop) → XQ → Prop
  | .seq e, ρ, M, Q, X => vE Γ e ρ M (fun x M1 => ∃ ds, seqF x = some ds ∧ Q ds M1) X
  | .range1 e, ρ, M, Q, X => vE Γ e ρ M (fun x M1 => ∃ n : Int, x = .int n ∧ -(2 ^ 62) ≤ n ∧ n < 2 ^ 62 ∧ Q ((List.range n.toNat).map fun (i : Nat) => .int (0 + (i : Int))) M1) X
  | .range2 a b, ρ, M, Q, X => vE Γ a ρ M (fun x M1 => vE Γ b ρ M1 (fun y M2 => ∃ n m : Int, x = .int n ∧ y = .int m ∧ (-(2 ^ 62) ≤ n ∧ n < 2 ^ 62 ∧ -(2 ^ 62) ≤ m ∧ m < 2 ^ 62) ∧ Q ((List.range (m - n).toNat).map fun (i : Nat) => .int (n + (i : Int))) M2) X) X
  | .zip a b, ρ, M, Q, X => vE Γ a ρ M (fun x M1 => vE Γ b ρ M1 (fun y M2 => ∃ xs ys, seqF x = some xs ∧ seqF y = some ys ∧ Q (List.zipWith prD xs ys) M2) X) X
  | .enum e, ρ, M, Q, X => vE Γ e ρ M (fun x M1 => ∃ xs, seqL x = some xs ∧ Q (xs.zipIdx.map fun p => prD (.int (p.2 : Nat)) p.1) M1) X
end

/-! ### statements -/
structure EndsD where
  nx : Rho → Mo → Prop
  rt : QE
  bk : Rho → Mo → Prop
  ct : Rho → Mo → Prop
  ex : Value → List (Str × D) → Rho → Mo → Prop
mutual
inductive S where
  | asg (tg : Tg) (e : E) | setC (i : Nat) (e : E) | aug (i : Nat) (op : Operator) (e : E) | ret (e : E) | retN
  | ifs (t : T) (a b : Ss) | for (tg : Tg) (it : I) (body : Ss) | while (t : T) (body : Ss)
  | expr (e : E) | app (o e : E) | setIx (o i e : E) | pass | brk | cont | never
inductive Ss where
  | nil | cons (s : S) (r : Ss) | frz (i : Nat) (r : Ss)
end
def augV : Operator → D → D → Option D
  | .Add, .int i, .int j => some (.int (i + j))
  | .Add, .str x, .str y => if x.length + y.length ≤ 16777216 then some (.str (x ++ y)) else none
  | .Sub, .int i, .int j => some (.int (i - j))
  | .Mult, .int i, .int j => if (-(2 ^ 64) < i ∧ i < 2 ^ 64) ∨ (-(2 ^ 64) < j ∧ j < 2 ^ 64) then some (.int (i * j)) else none
  | _, _, _ => none
def vFor (wb : EndsD → Rho → Mo → Prop) (tg : Tg) (K : EndsD) : List D → Rho → Mo → Prop
  | [], ρ, M => K.nx ρ M
  | d :: r, ρ, M => ∃ ρ', bindT tg d ρ = some ρ' ∧ wb { K with nx := vFor wb tg K r, ct := vFor wb tg K r, bk := K.nx } ρ' M
def vWhile (wt : Rho → Mo → (Bool → Mo → Prop) → XQ → Prop) (wb : EndsD → Rho → Mo → Prop) (K : EndsD) : Nat → Rho → Mo → Prop
  | 0, _, _ => False
  | n + 1, ρ, M => wt ρ M (fun b M1 => if b = true then wb { K with nx := vWhile wt wb K n, ct := vWhile wt wb K n, bk := K.nx } ρ M1 else K.nx ρ M1) (fun c fs M1 => K.ex c fs ρ M1)
mutual
def vS (Γ : List Fn) : S → EndsD → Rho → Mo → Prop
  | .asg tg e, K, ρ, M => vE Γ e ρ M (fun d M1 => ∃ ρ', bindT tg d ρ = some ρ' ∧ K.nx ρ' M1) (fun c fs M1 => K.ex c fs ρ M1)
  | .setC i e, K, ρ, M => vE Γ e ρ M (fun d M1 => K.nx (ρ.set i (some d)) M1) (fun c fs M1 => K.ex c fs ρ M1)
  | .aug i op e, K, ρ, M => ∃ x, ρ[i]? = some (some x) ∧ vE Γ e ρ M (fun y M1 => ∃ z, augV op x y = some z ∧ K.nx (ρ.set i (some z)) M1) (fun c fs M1 => K.ex c fs ρ M1)
  | .ret e, K, ρ, M => vE Γ e ρ M K.rt (fun c fs M1 => K.ex c fs ρ M1)
  | .retN, K, _, M => K.rt .non M
  | .ifs t a b, K, ρ, M => vT Γ t ρ M (fun c M1 => if c = true then vSs Γ a K ρ M1 else vSs Γ b K ρ M1) (fun c fs M1 => K.ex c fs ρ M1)
  | .for tg it body, K, ρ, M => vI Γ it ρ M (fun ds M1 => vFor (vSs Γ body) tg K ds ρ M1) (fun c fs M1 => K.ex c fs ρ M1)
  | .while t body, K, ρ, M => ∃ n, vWhile (vT Γ t) (vSs Γ body) K n ρ M
  | .expr e, K, ρ, M => vE Γ e ρ M (fun _ M1 => K.nx ρ M1) (fun c fs M1 => K.ex c fs ρ M1)
  | .app o e, K, ρ, M => vE Γ o ρ M (fun x M1 => ∃ p xs, x = .ref p ∧ M1 p = some (.lst xs) ∧ vE Γ e ρ M1 (fun y M2 => ∃ ys, M2 p = some (.lst ys) ∧ ys.length < 16777216 ∧ K.nx ρ (updM M2 p (.lst (ys ++ [y])))) (fun c fs M2 => K.ex c fs ρ M2)) (fun c fs M1 => K.ex c fs ρ M1)
  | .setIx o i e, K, ρ, M => vE Γ e ρ M (fun d M1 => vE Γ o ρ M1 (fun x M2 => vE Γ i ρ M2 (fun k M3 => ∃ p ds n j, x = .ref p ∧ k = .int n ∧ M3 p = some (.lst ds) ∧ ixN ds.length n = some j ∧ K.nx ρ (updM M3 p (.lst (ds.set j d)))) (fun c fs M2 => K.ex c fs ρ M2)) (fun c fs M2 => K.ex c fs ρ M2)) (fun c fs M1 => K.ex c fs ρ M1)
  | .pass, K, ρ, M => K.nx ρ M
  | .brk, K, ρ, M => K.bk ρ M
  | .cont, K, ρ, M => K.ct ρ M
  | .never, _, _, _ => False
def vSs (Γ : List Fn) : Ss → EndsD → Rho → Mo → Prop
  | .nil, K, ρ, M => K.nx ρ M
  | .cons s r, K, ρ, M => vS Γ s { K with nx := fun ρ1 M1 => vSs Γ r K ρ1 M1 } ρ M
  | .frz i r, K, ρ, M => ∃ p ds, ρ[i]? = some (some (.ref p)) ∧ M p = some (.lst ds) ∧ vSs Γ r K (ρ.set i (some (.lst ds))) (delM M p)
end
end Vp
namespace Vp
open PySem PySem.Spec PyProof.Rows L2

/-! ### defs by data -/
def spOf (K : PySem.W.Frag) (n : Nat) (con : Con) : Sp := fun vs H Q E => ∃ F M ds Q' X', Sat K F H M ∧ RepL K F vs ds ∧ ds.length = n ∧ con ds M Q' X' ∧ PV K F M H Q Q' ∧
  ∀ c fs M', X' c fs M' → ∀ F' H' d, Step K F M H F' M' H' → RepX K F' H' d fs → E c d H'
/-- the def of that name keeps its promise -/
def FnIs (X : Cx) (k : Nat) (g : Fn) : Prop := ∃ f fd ps, FnOk X.prog X.w X.K X.mg X.base (L2.CX X.prog X.w) k f fd ps (spOf X.K g.n g.con) ∧ X.mg g.name = some (.ref f) ∧ PySem.W.keepIn X.K (.ref f) = true ∧ Binds X.K fd ps []
/-- where the code stands, as far as it is written -/
structure SC where
  N : List Str
  sc : Scope
  fnm : Str → Bool
  calm : Bool
  fns : List Str
  bis : List Str
structure XO (X : Cx) (Γ : List Fn) (W : WX) (c : SC) : Prop where
  hN : X.N = c.N
  nd : c.N.Nodup
  sc : X.env.scope = c.sc
  fn : ∀ x, c.fnm x = true → X.fn x = true
  calm : c.calm = true → X.calm = true
  fns : c.fns = Γ.map (·.name)
  bis : ∀ x ∈ c.bis, X.mg x = none
  tk : Takes X W
  po : PassesOwn (model X.prog X.w) X.A X.env X.xe
  room : ∃ k, Room k X.A ∧ ∀ g ∈ Γ, FnIs X k g

/-! ### what is seen in the text -/
def okNm (x : Str) : Bool := !(x == ("__debug__" : Str)) && (!(x == ("__classdict__" : Str)) && !decide (x = ("__name__" : Str)))
theorem okNm1 {x : Str} (h : okNm x = true) : (x == ("__debug__" : Str)) = false := by
  have := (Bool.and_eq_true_iff.mp h).1
  simpa using this
theorem okNm2 {x : Str} (h : okNm x = true) : (x == ("__classdict__" : Str)) = false := by
  have := (Bool.and_eq_true_iff.mp (Bool.and_eq_true_iff.mp h).2).1
  simpa using this
theorem okNm3 {x : Str} (h : okNm x = true) : x ≠ "__name__" := by
  have := (Bool.and_eq_true_iff.mp (Bool.and_eq_true_iff.mp h).2).2
  simpa using this
def visB (sc : Scope) (x : Str) : Bool := match sc.names.lookup x with | some .local => true | some .cell => true | some .free => true | _ => false
theorem visB_ok {sc : Scope} {x : Str} (h : visB sc x = true) : Vis sc x := by
  unfold visB at h
  split at h
  · exact .inl (by assumption)
  · exact .inr (.inl (by assumption))
  · exact .inr (.inr (by assumption))
  · cases h
def locB (sc : Scope) (fnm : Str → Bool) (x : Str) : Bool := match sc.names.lookup x with | some .local => true | some .cell => fnm x | _ => false
theorem locB_ok {sc : Scope} {fnm : Str → Bool} {x : Str} (h : locB sc fnm x = true) : Loc sc x ∧ (fnm x = true ∨ sc.names.lookup x = some .local) := by
  unfold locB at h
  split at h
  · exact ⟨.inl (by assumption), .inr (by assumption)⟩
  · exact ⟨.inr (by assumption), .inl h⟩
  · cases h
def glB (sc : Scope) (x : Str) : Bool := match sc.names.lookup x with | some .globalImplicit => true | _ => false
theorem glB_ok {X : Cx} {x : Str} (h : glB X.env.scope x = true) : Gl X x := by
  unfold glB at h
  split at h
  · assumption
  · cases h
def noStar : Expr → Bool | .Starred .. => false | _ => true
def noSet : Expr → Bool | .Set .. => false | _ => true
def noCut : Expr → Bool | .ListComp .. => false | .SetComp .. => false | .DictComp .. => false | _ => true
def plainT : Expr → Bool | .UnaryOp .Not _ _ => false | .BoolOp .. => false | .IfExp .. => false | .Compare .. => false | _ => true
def plainI : Expr → Bool | .Slice .. => false | _ => true
def attrOk : Expr → Bool | .Call _ [] _ _ => false | _ => true
theorem star_cons {e : Expr} (h : noStar e = true) {es : List Expr} {env : Env} : starEach (e :: es) env = (false, eval e env) :: starEach es env := by
  cases e <;> first | rfl | cases h
theorem star_any {env : Env} {pos : Pos} : ∀ {es : List Expr}, es.all noStar = true → (backTo pos (starEach es env)).any (·.1) = false
  | [], _ => rfl
  | e :: es, h => by
    obtain ⟨h1, h2⟩ := Bool.and_eq_true_iff.mp (by simpa using h : (noStar e && es.all noStar) = true)
    rw [star_cons h1]
    show (false || (backTo pos (starEach es env)).any (·.1)) = false
    rw [star_any h2]; rfl
theorem noSet_behind {e : Expr} (h : noSet e = true) {op : CmpOp} : behindInMarks op e = false := by
  cases e <;> first | rfl | cases h
theorem noSet_fold {e : Expr} (h : noSet e = true) {env : Env} : ∀ x, foldedSetIterable e env x = pure x := by
  intro x
  cases e <;> first | rfl | cases h
theorem noCut_swaps {e : Expr} (h : noCut e = true) {t : Option Expr} {l : Nat} {env : Env} : swapsWith e t l env = pure false := by
  cases e <;> first | rfl | cases h
theorem plainT_ok {e : Expr} (h : plainT e = true) {env : Env} (whole : Sem Value) : isTrue e env whole = (do let v ← whole; standAt e.pos; holding [v] (truthy v)) := by
  cases e with
  | UnaryOp op a p => cases op <;> first | rfl | cases h
  | BoolOp _ _ _ => cases h
  | IfExp _ _ _ _ => cases h
  | Compare _ _ _ _ => cases h
  | _ => rfl
theorem plainI_ok {e : Expr} (h : plainI e = true) : PlainIx e := by
  intro o i
  cases e <;> first | rfl | cases h
theorem attrOk_ok {e : Expr} (h : attrOk e = true) {n : Str} {env : Env} {w : Sem Value} : attributeBase e n env w = w := by
  cases e with
  | Call f args kws p =>
    cases args with
    | nil => cases h
    | cons a r => cases f <;> rfl
  | _ => rfl
def tyOk (x : Str) (T : String) : Bool := (decide (x = ("int" : Str)) && decide (T = "int")) || (decide (x = ("bool" : Str)) && decide (T = "bool")) || (decide (x = ("str" : Str)) && decide (T = "str")) || (decide (x = ("tuple" : Str)) && decide (T = "tuple")) || (decide (x = ("list" : Str)) && decide (T = "list")) || (decide (x = ("dict" : Str)) && decide (T = "dict"))
theorem tyOk_ok {x : Str} {T : String} (h : tyOk x T = true) : bootBuiltins x = some (.type T) := by
  simp only [tyOk, Bool.or_eq_true, Bool.and_eq_true, decide_eq_true_eq] at h
  rcases h with ((((⟨rfl, rfl⟩ | ⟨rfl, rfl⟩) | ⟨rfl, rfl⟩) | ⟨rfl, rfl⟩) | ⟨rfl, rfl⟩) | ⟨rfl, rfl⟩ <;> decide +kernel
def isTupE : Expr → Bool | .Tuple .. => true | _ => false
def ownOf (N : List Str) (is : List Nat) : List (Str × Nat) := is.filterMap fun i => (N[i]?).map fun x => (x, i)
mutual
def isTg (c : SC) : Tg → Expr → Bool
  | .nm i, .Name x _ => decide (c.N[i]? = some x) && locB c.sc c.fnm x
  | .tup ts, .Tuple es _ _ => c.calm && isTgs c ts es
  | _, _ => false
def isTgs (c : SC) : Tgs → List Expr → Bool
  | .nil, [] => true
  | .cons t r, e :: es => isTg c t e && isTgs c r es
  | _, _ => false
end
def andTail (op : BoolOp) (y : Expr) (r : List Expr) (p : Pos) : Expr := match r with | [] => y | _ :: _ => .BoolOp op (y :: r) p
/-- the block of a comprehension -/
def SC.blk (c : SC) (scope : Scope) : SC := { c with sc := relS scope c.sc, fnm := fun x => scope.names.lookup x == some .cell }
def dName : Expr → Option Str | .Name x _ => some x | _ => none
theorem dName_inv {e : Expr} {x : Str} (h : dName e = some x) : ∃ p, e = .Name x p := by
  cases e <;> first | (cases h; done) | (cases h; exact ⟨_, rfl⟩)
def dConst : Expr → Option Const | .Constant k _ _ => some k | _ => none
theorem dConst_inv {e : Expr} {x : Const} (h : dConst e = some x) : ∃ k p, e = .Constant x k p := by
  cases e <;> first | (cases h; done) | (cases h; exact ⟨_, _, rfl⟩)
def dBin : Expr → Option (Expr × Operator × Expr) | .BinOp a o b _ => some (a, o, b) | _ => none
theorem dBin_inv {e a b : Expr} {o : Operator} (h : dBin e = some (a, o, b)) : ∃ p, e = .BinOp a o b p := by
  cases e <;> first | (cases h; done) | (cases h; exact ⟨_, rfl⟩)
def dUn : Expr → Option (UnaryOp × Expr) | .UnaryOp o a _ => some (o, a) | _ => none
theorem dUn_inv {e a : Expr} {o : UnaryOp} (h : dUn e = some (o, a)) : ∃ p, e = .UnaryOp o a p := by
  cases e <;> first | (cases h; done) | (cases h; exact ⟨_, rfl⟩)
def dCmp : Expr → Option (Expr × List CmpOp × List Expr) | .Compare a o b _ => some (a, o, b) | _ => none
theorem dCmp_inv {e a : Expr} {o : List CmpOp} {b : List Expr} (h : dCmp e = some (a, o, b)) : ∃ p, e = .Compare a o b p := by
  cases e <;> first | (cases h; done) | (cases h; exact ⟨_, rfl⟩)
def dBool : Expr → Option (BoolOp × Expr × Expr) | .BoolOp op (x :: y :: r) p => some (op, x, andTail op y r p) | _ => none
theorem dBool_inv {e x z : Expr} {op : BoolOp} (h : dBool e = some (op, x, z)) : ∃ y r p, e = .BoolOp op (x :: y :: r) p ∧ z = andTail op y r p := by
  cases e with
  | BoolOp o vs p =>
    rcases vs with _ | ⟨u, _ | ⟨v, r⟩⟩
    · cases h
    · cases h
    · cases h; exact ⟨_, _, _, rfl, rfl⟩
  | _ => cases h
def dIf : Expr → Option (Expr × Expr × Expr) | .IfExp a b c _ => some (a, b, c) | _ => none
theorem dIf_inv {e a b c : Expr} (h : dIf e = some (a, b, c)) : ∃ p, e = .IfExp a b c p := by
  cases e <;> first | (cases h; done) | (cases h; exact ⟨_, rfl⟩)
def dTup : Expr → Option (List Expr) | .Tuple a _ _ => some a | _ => none
theorem dTup_inv {e : Expr} {a : List Expr} (h : dTup e = some a) : ∃ k p, e = .Tuple a k p := by
  cases e <;> first | (cases h; done) | (cases h; exact ⟨_, _, rfl⟩)
def dLst : Expr → Option (List Expr) | .List a _ => some a | _ => none
theorem dLst_inv {e : Expr} {a : List Expr} (h : dLst e = some a) : ∃ p, e = .List a p := by
  cases e <;> first | (cases h; done) | (cases h; exact ⟨_, rfl⟩)
def dCall : Expr → Option (Str × List Expr) | .Call (.Name x _) a [] _ => some (x, a) | _ => none
theorem dCall_inv {e : Expr} {x : Str} {a : List Expr} (h : dCall e = some (x, a)) : ∃ q p, e = .Call (.Name x q) a [] p := by
  cases e with
  | Call f as kw p =>
    cases kw with
    | nil => cases f <;> first | (cases h; done) | (cases h; exact ⟨_, _, rfl⟩)
    | cons _ _ => cases f <;> cases h
  | _ => cases h
def dSub : Expr → Option (Expr × Expr) | .Subscript a b _ => some (a, b) | _ => none
theorem dSub_inv {e a b : Expr} (h : dSub e = some (a, b)) : ∃ p, e = .Subscript a b p := by
  cases e <;> first | (cases h; done) | (cases h; exact ⟨_, rfl⟩)
def dComp : Expr → Option (Expr × Expr × Expr × List Expr × Scope) | .ListComp x [⟨t, i, ifs, 0⟩] sc _ => some (x, t, i, ifs, sc) | _ => none
theorem dComp_inv {e x t i : Expr} {ifs : List Expr} {sc : Scope} (h : dComp e = some (x, t, i, ifs, sc)) : ∃ p, e = .ListComp x [⟨t, i, ifs, 0⟩] sc p := by
  cases e with
  | ListComp a gs s p =>
    unfold dComp at h
    split at h
    · rename_i heq
      cases heq
      cases h
      exact ⟨_, rfl⟩
    · cases h
  | _ => cases h
mutual
def isE (c : SC) : E → Expr → Bool
  | .var i, e => match dName e with | some x => decide (c.N[i]? = some x) && (visB c.sc x && okNm x) | none => false
  | .cint i, e => match dConst e with | some k => decide (k = .int i) | none => false
  | .cstr x, e => match dConst e with | some k => decide (k = .str x) | none => false
  | .cbl b, e => match dConst e with | some k => decide (k = .bool b) | none => false
  | .cnon, e => match dConst e with | some k => decide (k = .none) | none => false
  | .cty T, e => match dName e with | some x => glB c.sc x && (decide (x ∈ c.bis) && (okNm x && tyOk x T)) | none => false
  | .bin op a b, e => match dBin e with | some (x, o, y) => decide (o = op) && (supB op && (isE c a x && isE c b y)) | none => false
  | .neg a, e => match dUn e with | some (o, x) => decide (o = .USub) && isE c a x | none => false
  | .cmp op a b, e => match dCmp e with | some (x, [o], [y]) => decide (o = op) && (supC op && (noSet y && (isE c a x && isE c b y))) | _ => false
  | .chain op op' a b d, e => match dCmp e with | some (x, [o, o'], [y, z]) => decide (o = op) && (decide (o' = op') && (supC op && (supC op' && (noSet y && (noSet z && (isE c a x && (isE c b y && isE c d z))))))) | _ => false
  | .and a b, e => match dBool e with | some (o, x, y) => decide (o = .And) && (isE c a x && isE c b y) | none => false
  | .or a b, e => match dBool e with | some (o, x, y) => decide (o = .Or) && (isE c a x && isE c b y) | none => false
  | .not a, e => match dUn e with | some (o, x) => decide (o = .Not) && isE c a x | none => false
  | .ite t a b, e => match dIf e with | some (u, x, y) => isT c t u && (isE c a x && isE c b y) | none => false
  | .tup es, e => match dTup e with | some xs => isEs c es xs | none => false
  | .lst _ es, e => match dLst e with | some xs => isEs c es xs | none => false
  | .call k es, e => match dCall e with | some (x, ys) => decide (c.fns[k]? = some x) && (glB c.sc x && (okNm x && (!ys.isEmpty && isEs c es ys))) | none => false
  | .bi b es, e => match dCall e with | some (x, ys) => decide (x = b.name) && (c.calm && (decide (x ∈ c.bis) && (glB c.sc x && (okNm x && (!ys.isEmpty && isEs c es ys))))) | none => false
  | .ix a b, e => match dSub e with | some (x, y) => plainI y && (isE c a x && isE c b y) | none => false
  | .comp _ elt tg it cond, e => match dComp e with
    | some (x, t, i, ifs, scope) => c.calm && (noSet i && (isI c it t i && (blkC c.N c.sc scope (ownOf c.N (slotsT tg)) && (decide ((ownOf c.N (slotsT tg)).map (·.2) = slotsT tg) && (isTg (c.blk scope) tg t && (isTo (c.blk scope) cond ifs && isE (c.blk scope) elt x))))))
    | none => false
def isEs (c : SC) : Es → List Expr → Bool
  | .nil, es => match es with | [] => true | _ :: _ => false
  | .cons e r, es => match es with | [] => false | x :: xs => noStar x && (isE c e x && isEs c r xs)
def isT (c : SC) : T → Expr → Bool
  | .tr e, x => plainT x && isE c e x
  | .cmp op a b, e => match dCmp e with | some (x, [o], [y]) => decide (o = op) && (supC op && (noSet y && (isE c a x && isE c b y))) | _ => false
  | .chain op op' a b d, e => match dCmp e with | some (x, [o, o'], [y, z]) => decide (o = op) && (decide (o' = op') && (supC op && (supC op' && (noSet y && (noSet z && (isE c a x && (isE c b y && isE c d z))))))) | _ => false
  | .and a b, e => match dBool e with | some (o, x, y) => decide (o = .And) && (isT c a x && isT c b y) | none => false
  | .or a b, e => match dBool e with | some (o, x, y) => decide (o = .Or) && (isT c a x && isT c b y) | none => false
  | .not a, e => match dUn e with | some (o, x) => decide (o = .Not) && isT c a x | none => false
def isTo (c : SC) : To → List Expr → Bool
  | .none, es => match es with | [] => true | _ :: _ => false
  | .some t, es => match es with | [x] => isT c t x | _ => false
def isI (c : SC) : I → Expr → Expr → Bool
  | .seq e, _, x => isE c e x
  | .range1 e, _, x => match dCall x with | some (n, [y]) => decide (n = ("range" : Str)) && (decide (n ∈ c.bis) && (glB c.sc n && (noStar y && isE c e y))) | _ => false
  | .range2 a b, _, x => match dCall x with | some (n, [y, z]) => decide (n = ("range" : Str)) && (decide (n ∈ c.bis) && (glB c.sc n && (noStar y && (noStar z && (isE c a y && isE c b z))))) | _ => false
  | .zip a b, t, x => match dCall x with | some (n, [y, z]) => (dTup t).isSome && (decide (n = ("zip" : Str)) && (decide (n ∈ c.bis) && (glB c.sc n && (noStar y && (noStar z && (isE c a y && isE c b z)))))) | _ => false
  | .enum e, t, x => match dCall x with | some (n, [y]) => (dTup t).isSome && (decide (n = ("enumerate" : Str)) && (decide (n ∈ c.bis) && (glB c.sc n && (noStar y && isE c e y)))) | _ => false
end
/-! ### statements -/
def supA : Operator → Bool | .Add | .Sub | .Mult => true | _ => false
def parOk : Expr → Expr → Bool
  | .Tuple .., .Tuple .. => false | .List .., .Tuple .. => false | _, _ => true
def dApp : Expr → Option (Expr × Expr) | .Call (.Attribute o m ap) [e] [] cp => if decide (m = ("append" : Str)) && (ap.endLine == cp.line) then some (o, e) else none | _ => none
theorem dApp_inv {x o e : Expr} (h : dApp x = some (o, e)) : ∃ ap cp, x = .Call (.Attribute o "append" ap) [e] [] cp ∧ (ap.endLine == cp.line) = true := by
  unfold dApp at h
  split at h
  · split at h
    · rename_i hz
      obtain ⟨z1, z2⟩ := Bool.and_eq_true_iff.mp hz
      obtain rfl := of_decide_eq_true z1
      cases h
      exact ⟨_, _, rfl, z2⟩
    · cases h
  · cases h
def dExpr : Stmt → Option Expr | .Expr e _ => some e | _ => none
theorem dExpr_inv {s : Stmt} {e : Expr} (h : dExpr s = some e) : ∃ p, s = .Expr e p := by
  cases s <;> first | (cases h; done) | (cases h; exact ⟨_, rfl⟩)
def dAsg : Stmt → Option (Expr × Expr) | .Assign [t] e _ => some (t, e) | _ => none
theorem dAsg_inv {s : Stmt} {t e : Expr} (h : dAsg s = some (t, e)) : ∃ p, s = .Assign [t] e p := by
  cases s with
  | Assign ts v p =>
    rcases ts with _ | ⟨a, _ | ⟨b, r⟩⟩
    · cases h
    · cases h; exact ⟨_, rfl⟩
    · cases h
  | _ => cases h
def dAug : Stmt → Option (Str × Operator × Expr) | .AugAssign (.Name x _) o e _ => some (x, o, e) | _ => none
theorem dAug_inv {s : Stmt} {x : Str} {o : Operator} {e : Expr} (h : dAug s = some (x, o, e)) : ∃ q p, s = .AugAssign (.Name x q) o e p := by
  cases s with
  | AugAssign t o v p => cases t <;> first | (cases h; done) | (cases h; exact ⟨_, _, rfl⟩)
  | _ => cases h
def dRet : Stmt → Option (Option Expr) | .Return e _ => some e | _ => none
theorem dRet_inv {s : Stmt} {e : Option Expr} (h : dRet s = some e) : ∃ p, s = .Return e p := by
  cases s <;> first | (cases h; done) | (cases h; exact ⟨_, rfl⟩)
def dIfS : Stmt → Option (Expr × List Stmt × List Stmt) | .If t a b _ => some (t, a, b) | _ => none
theorem dIfS_inv {s : Stmt} {t : Expr} {a b : List Stmt} (h : dIfS s = some (t, a, b)) : ∃ p, s = .If t a b p := by
  cases s <;> first | (cases h; done) | (cases h; exact ⟨_, rfl⟩)
def dFor : Stmt → Option (Expr × Expr × List Stmt) | .For t i b [] _ => some (t, i, b) | _ => none
theorem dFor_inv {s : Stmt} {t i : Expr} {b : List Stmt} (h : dFor s = some (t, i, b)) : ∃ p, s = .For t i b [] p := by
  cases s with
  | For t i b o p => cases o <;> first | (cases h; done) | (cases h; exact ⟨_, rfl⟩)
  | _ => cases h
def dWhile : Stmt → Option (Expr × List Stmt) | .While t b [] _ => some (t, b) | _ => none
theorem dWhile_inv {s : Stmt} {t : Expr} {b : List Stmt} (h : dWhile s = some (t, b)) : ∃ p, s = .While t b [] p := by
  cases s with
  | While t b o p => cases o <;> first | (cases h; done) | (cases h; exact ⟨_, rfl⟩)
  | _ => cases h
/-- y = [..] on one line -/
def dSetC : Stmt → Option (Str × Expr × Expr × Expr × List Expr × Scope × Bool)
  | .Assign [.Name y py] (.ListComp x [⟨t, i, ifs, 0⟩] sc p) _ => some (y, x, t, i, ifs, sc, (py.line == p.line) && !(sc.names.any fun (n, k) => n == y && (k == .local || k == .cell)))
  | _ => none
theorem dSetC_inv {s : Stmt} {y : Str} {x t i : Expr} {ifs : List Expr} {sc : Scope} (h : dSetC s = some (y, x, t, i, ifs, sc, true)) :
    ∃ py p q, s = .Assign [.Name y py] (.ListComp x [⟨t, i, ifs, 0⟩] sc p) q ∧ (py.line == p.line) = true ∧ (sc.names.any fun (n, k) => n == y && (k == .local || k == .cell)) = false := by
  unfold dSetC at h
  split at h
  · injection h with h
    injection h with e1 h; injection h with e2 h; injection h with e3 h; injection h with e4 h; injection h with e5 h; injection h with e6 h
    subst e1 e2 e3 e4 e5 e6
    obtain ⟨a, b⟩ := Bool.and_eq_true_iff.mp h
    exact ⟨_, _, _, rfl, a, by simpa using b⟩
  · cases h
mutual
def isS (c : SC) : S → Stmt → Bool
  | .asg tg e, s => match dAsg s with | some (t, v) => noCut v && (parOk t v && (isTg c tg t && isE c e v)) | none => false
  | .setC i e, s => match dSetC s with
    | some (y, x, t, it', ifs, scope, b) => (match e with
      | .comp _ elt tg it cond => b && (decide (c.N[i]? = some y) && (decide (c.sc.names.lookup y = some .local) && (c.calm && (noSet it' && (isI c it t it' && (blkC c.N c.sc scope (ownOf c.N (slotsT tg)) && (decide ((ownOf c.N (slotsT tg)).map (·.2) = slotsT tg) && (isTg (c.blk scope) tg t && (isTo (c.blk scope) cond ifs && isE (c.blk scope) elt x)))))))))
      | _ => false)
    | none => false
  | .aug i op e, s => match dAug s with | some (x, o, v) => decide (o = op) && (supA op && (decide (c.N[i]? = some x) && (locB c.sc c.fnm x && isE c e v))) | none => false
  | .ret e, s => match dRet s with | some (some v) => isE c e v | _ => false
  | .retN, s => match dRet s with | some none => true | _ => false
  | .ifs t a b, s => match dIfS s with | some (u, x, y) => isT c t u && (isSs c a x && isSs c b y) | none => false
  | .for tg it body, s => match dFor s with | some (t, i, b) => c.calm && (noSet i && (isI c it t i && (isTg c tg t && isSs c body b))) | none => false
  | .while t body, s => match dWhile s with | some (u, b) => isT c t u && isSs c body b | none => false
  | .expr e, s => match dExpr s with | some v => noCut v && isE c e v | none => false
  | .app o e, s => match dExpr s with | some v => (match dApp v with | some (x, y) => attrOk x && (noStar y && (isE c o x && isE c e y)) | none => false) | none => false
  | .setIx o i e, s => match dAsg s with | some (t, v) => (match dSub t with | some (x, y) => noCut v && (plainI y && (isE c e v && (isE c o x && isE c i y))) | none => false) | none => false
  | .pass, s => match s with | .Pass _ => true | _ => false
  | .brk, s => match s with | .Break _ => true | _ => false
  | .cont, s => match s with | .Continue _ => true | _ => false
  | .never, _ => true
def isSs (c : SC) : Ss → List Stmt → Bool
  | .nil, sts => match sts with | [] => true | _ :: _ => false
  | .cons s r, sts => match sts with | [] => false | x :: xs => isS c s x && isSs c r xs
  | .frz _ r, sts => isSs c r sts
end
theorem and2 {a b : Bool} (h : (a && b) = true) : a = true ∧ b = true := Bool.and_eq_true_iff.mp h
end Vp
namespace Vp
open PySem PySem.Spec PyProof.Rows L2

section
variable {X : Cx} {W : WX} {wa wb wc : VE} {a b d : Expr} {pos : Pos}
theorem de_var {i : Nat} {x : Str} (hN : X.N[i]? = some x) (hv : Vis X.env.scope x) (hn : okNm x = true) : PE X (.Name x pos) (tE X.K W fun ρ M Q _ => ∃ d, ρ[i]? = some (some d) ∧ Q d M) := by
  refine PE.weak (pe_var hN hv (okNm1 hn) (okNm2 hn)) fun σ H Q h => ?_
  obtain ⟨F, M, ρ, Q', X', s, r, ⟨d, e, q⟩, pv, px⟩ := h
  obtain ⟨v, e1, rv⟩ := r.get i d e
  exact ⟨v, e1, pv.here s q rv⟩
theorem de_const {e : Expr} {v : V} {dd : D} (h : PE X e (tC v)) (hr : ∀ K F, Rep K F v dd) : PE X e (tE X.K W fun _ M Q _ => Q dd M) := by
  refine PE.weak h fun σ H Q h => ?_
  obtain ⟨F, M, ρ, Q', X', s, r, q, pv, px⟩ := h
  exact pv.here s q (hr _ _)
/-- two expressions in a row -/
theorem two {σ : L2.St} {H : Hp} {F : Hp} {M : Mo} {ρ : Rho} {X' : XQ} {f : D → D → Mo → Prop} {R : V → V → Hp → Prop} (s : Sat X.K F H M) (r : RepE X.K F σ ρ) (h : wa ρ M (fun x M1 => wb ρ M1 (fun y M2 => f x y M2) X') X') (px : PX X.K F M H W σ X')
    (hf : ∀ x y d1 d2 F2 M2 H2, Step X.K F M H F2 M2 H2 → Rep X.K F2 x d1 → Rep X.K F2 y d2 → f d1 d2 M2 → R x y H2) : tE X.K W wa σ H fun x H1 => tE X.K W wb σ H1 fun y H2 => R x y H2 := by
  refine ⟨F, M, ρ, _, X', s, r, h, fun d1 M1 h1 F1 H1 v1 st1 r1 => ?_, px⟩
  refine ⟨F1, M1, ρ, _, X', st1.sat, r.mono st1.ff, h1, fun d2 M2 h2 F2 H2 v2 st2 r2 => ?_, px.step st1⟩
  exact hf v1 v2 d1 d2 F2 M2 H2 (st1.trans st2) (r1.mono st2.ff) r2 h2
theorem de_op {op : Operator} {r : R2} {f : D → D → Mo → QE → Prop} (ho : OpR X (binaryOp op) r) (hl : OpL X.K r f) (ha : PE X a (tE X.K W wa)) (hb : PE X b (tE X.K W wb)) :
    PE X (.BinOp a op b pos) (tE X.K W fun ρ M Q X' => wa ρ M (fun x M1 => wb ρ M1 (fun y M2 => f x y M2 Q) X') X') := by
  refine PE.weak (pe_op ho ha hb) fun σ H Q h => ?_
  obtain ⟨F, M, ρ, Q', X', s, r, h, pv, px⟩ := h
  exact two s r h px fun x y d1 d2 F2 M2 H2 st r1 r2 q => hl x y d1 d2 F2 H2 M2 Q Q' st.sat r1 r2 q (pv.step st)
theorem de_none {e : Expr} {w : VE} (h : ∀ ρ M Q X', ¬ w ρ M Q X') : PE X e (tE X.K W w) := ⟨fun _ _ _ _ _ _ ⟨_, _, _, _, _, _, _, q, _⟩ => absurd q (h _ _ _ _)⟩
theorem de_ix (hp : PlainIx b) (ha : PE X a (tE X.K W wa)) (hb : PE X b (tE X.K W wb)) :
    PE X (.Subscript a b pos) (tE X.K W fun ρ M Q X' => wa ρ M (fun x M1 => wb ρ M1 (fun y M2 => ∃ d, ixV M2 x y = some d ∧ Q d M2) X') X') := by
  refine PE.weak (pe_ix ix_seq ha hb hp) fun σ H Q h => ?_
  obtain ⟨F, M, ρ, Q', X', s, r, h, pv, px⟩ := h
  exact two s r h px fun x y d1 d2 F2 M2 H2 st r1 r2 q => opl_ix x y d1 d2 F2 H2 M2 Q Q' st.sat r1 r2 q (pv.step st)
theorem de_neg (ha : PE X a (tE X.K W wa)) : PE X (.UnaryOp .USub a pos) (tE X.K W fun ρ M Q X' => wa ρ M (fun x M1 => ∃ i, x = .int i ∧ Q (.int (-i)) M1) X') := by
  refine PE.weak (pe_un un_neg ha) fun σ H Q h => ?_
  obtain ⟨F, M, ρ, Q', X', s, r, h, pv, px⟩ := h
  refine ⟨F, M, ρ, _, X', s, r, h, fun d1 M1 ⟨i, e, q⟩ F1 H1 v1 st1 r1 => ?_, px⟩
  subst e
  cases r1
  exact ⟨i, rfl, (pv.step st1).here st1.sat q (.int _)⟩
theorem de_cmp {op : CmpOp} {r : R2} (ho : OpR X (compareOp op) r) (hl : OpL X.K r (fCmp (cmpV op))) (hb' : behindInMarks op b = false) (ha : PE X a (tE X.K W wa)) (hb : PE X b (tE X.K W wb)) :
    PE X (.Compare a [op] [b] pos) (tE X.K W fun ρ M Q X' => wa ρ M (fun x M1 => wb ρ M1 (fun y M2 => fCmp (cmpV op) x y M2 Q) X') X') := by
  refine PE.weak (pe_cmpR ho ha hb hb') fun σ H Q h => ?_
  obtain ⟨F, M, ρ, Q', X', s, r, h, pv, px⟩ := h
  exact two s r h px fun x y d1 d2 F2 M2 H2 st r1 r2 q => hl x y d1 d2 F2 H2 M2 Q Q' st.sat r1 r2 q (pv.step st)
theorem dt_cmp {op : CmpOp} {r : R2} (ho : OpR X (compareOp op) r) (hl : OpL X.K r (fCmp (cmpV op))) (hb' : behindInMarks op b = false) (ha : PE X a (tE X.K W wa)) (hb : PE X b (tE X.K W wb)) :
    PT X (.Compare a [op] [b] pos) (tT X.K W fun ρ M Q X' => wa ρ M (fun x M1 => wb ρ M1 (fun y M2 => ∃ k, cmpV op x y = some k ∧ Q k M2) X') X') := by
  refine PT.weak (pt_cmpR ho ha hb hb') fun σ H Q h => ?_
  obtain ⟨F, M, ρ, Q', X', s, r, h, pv, px⟩ := h
  refine two s r h px fun x y d1 d2 F2 M2 H2 st r1 r2 q => ?_
  obtain ⟨k, e, q⟩ := q
  refine hl x y d1 d2 F2 H2 M2 _ (fun d M' => d = .bl k ∧ M' = M2) st.sat r1 r2 ⟨k, e, rfl, rfl⟩ fun dd M' ⟨e1, e2⟩ F' H' v st' r' => ?_
  subst e1 e2
  cases r'
  exact ⟨k, rfl, pv k _ q F' H' (st.trans st')⟩
/-- a chain, by its tail -/
theorem chain_tail {op op' : CmpOp} {r r' : R2} (hl : OpL X.K r (fCmp (cmpV op))) (hl' : OpL X.K r' (fCmp (cmpV op'))) {σ : L2.St} {H : Hp} {F : Hp} {M : Mo} {ρ : Rho} {X' : XQ} {Qb : Bool → Mo → Prop} {R : V → Hp → Prop} (s : Sat X.K F H M) (re : RepE X.K F σ ρ)
    (h : wa ρ M (fun x M1 => wb ρ M1 (fun y M2 => ∃ k, cmpV op x y = some k ∧ if k = true then wc ρ M2 (fun z M3 => ∃ k', cmpV op' y z = some k' ∧ Qb k' M3) X' else Qb false M2) X') X') (px : PX X.K F M H W σ X')
    (hR : ∀ k M2 F2 H2, Qb k M2 → Step X.K F M H F2 M2 H2 → R (.bl k) H2) : tChain r r' (tE X.K W wa) (tE X.K W wb) (tE X.K W wc) σ H R := by
  refine two s re h px fun x y d1 d2 F2 M2 H2 st r1 r2 q => ?_
  obtain ⟨k, e, q⟩ := q
  refine hl x y d1 d2 F2 H2 M2 _ (fun d M' => d = .bl k ∧ M' = M2) st.sat r1 r2 ⟨k, e, rfl, rfl⟩ fun dd M' ⟨e1, e2⟩ F3 H3 v st' r3 => ?_
  subst e1 e2
  cases r3
  refine ⟨k, rfl, ?_⟩
  have st3 := st.trans st'
  cases k with
  | false => exact iteF (hR false _ F3 H3 q st3)
  | true =>
    refine iteT ⟨F3, _, ρ, _, X', st3.sat, re.mono st3.ff, q, fun d3 M3 ⟨k', e3, q3⟩ F4 H4 v4 st4 r4 => ?_, px.step st3⟩
    refine hl' y v4 d2 d3 F4 H4 M3 _ (fun d M' => d = .bl k' ∧ M' = M3) st4.sat (r2.mono (st'.ff.trans st4.ff)) r4 ⟨k', e3, rfl, rfl⟩ fun dd M' ⟨e1, e2⟩ F5 H5 v st5 r5 => ?_
    subst e1 e2
    cases r5
    exact hR k' _ F5 H5 q3 ((st3.trans st4).trans st5)
theorem de_chain {op op' : CmpOp} {r r' : R2} (ho : OpR X (compareOp op) r) (hl : OpL X.K r (fCmp (cmpV op))) (ho' : OpR X (compareOp op') r') (hl' : OpL X.K r' (fCmp (cmpV op'))) (hm : lastMarks [op, op'] [b, d] = false)
    (ha : PE X a (tE X.K W wa)) (hb : PE X b (tE X.K W wb)) (hc : PE X d (tE X.K W wc)) :
    PE X (.Compare a [op, op'] [b, d] pos) (tE X.K W fun ρ M Q X' => wa ρ M (fun x M1 => wb ρ M1 (fun y M2 => ∃ k, cmpV op x y = some k ∧ if k = true then wc ρ M2 (fun z M3 => fCmp (cmpV op') y z M3 Q) X' else Q (.bl false) M2) X') X') := by
  refine PE.weak (pe_chain ho ho' ha hb hc hm) fun σ H Q h => ?_
  obtain ⟨F, M, ρ, Q', X', s, r, h, pv, px⟩ := h
  exact chain_tail hl hl' (Qb := fun k M => Q' (.bl k) M) s r h px fun k M2 F2 H2 q st => pv _ _ q F2 H2 _ st (.bl _)
theorem dt_chain {op op' : CmpOp} {r r' : R2} (ho : OpR X (compareOp op) r) (hl : OpL X.K r (fCmp (cmpV op))) (ho' : OpR X (compareOp op') r') (hl' : OpL X.K r' (fCmp (cmpV op'))) (hm : lastMarks [op, op'] [b, d] = false)
    (ha : PE X a (tE X.K W wa)) (hb : PE X b (tE X.K W wb)) (hc : PE X d (tE X.K W wc)) :
    PT X (.Compare a [op, op'] [b, d] pos) (tT X.K W fun ρ M Q X' => wa ρ M (fun x M1 => wb ρ M1 (fun y M2 => ∃ k, cmpV op x y = some k ∧ if k = true then wc ρ M2 (fun z M3 => ∃ k', cmpV op' y z = some k' ∧ Q k' M3) X' else Q false M2) X') X') := by
  refine PT.weak (pt_chain ho ho' ha hb hc hm) fun σ H Q h => ?_
  obtain ⟨F, M, ρ, Q', X', s, r, h, pv, px⟩ := h
  exact chain_tail hl hl' (Qb := Q') s r h px fun k M2 F2 H2 q st => ⟨k, rfl, pv _ _ q F2 H2 st⟩
theorem de_and {rest : List Expr} (ha : PE X a (tE X.K W wa)) (hb : PE X (.BoolOp .And (b :: rest) pos) (tE X.K W wb)) :
    PE X (.BoolOp .And (a :: b :: rest) pos) (tE X.K W fun ρ M Q X' => wa ρ M (fun x M1 => ∃ c, x = .bl c ∧ if c = true then wb ρ M1 Q X' else Q (.bl false) M1) X') := by
  refine PE.weak (pe_and ha hb) fun σ H Q h => ?_
  obtain ⟨F, M, ρ, Q', X', s, r, h, pv, px⟩ := h
  refine ⟨F, M, ρ, _, X', s, r, h, fun d1 M1 ⟨c, e, q⟩ F1 H1 v1 st1 r1 => ?_, px⟩
  subst e
  cases r1
  refine ⟨c, rfl, ?_⟩
  cases c with
  | true => exact iteT ⟨F1, M1, ρ, _, X', st1.sat, r.mono st1.ff, q, pv.step st1, px.step st1⟩
  | false => exact iteF (pv _ _ q F1 H1 _ st1 (.bl _))
theorem de_or {rest : List Expr} (ha : PE X a (tE X.K W wa)) (hb : PE X (.BoolOp .Or (b :: rest) pos) (tE X.K W wb)) :
    PE X (.BoolOp .Or (a :: b :: rest) pos) (tE X.K W fun ρ M Q X' => wa ρ M (fun x M1 => ∃ c, x = .bl c ∧ if c = true then Q (.bl true) M1 else wb ρ M1 Q X') X') := by
  refine PE.weak (pe_or ha hb) fun σ H Q h => ?_
  obtain ⟨F, M, ρ, Q', X', s, r, h, pv, px⟩ := h
  refine ⟨F, M, ρ, _, X', s, r, h, fun d1 M1 ⟨c, e, q⟩ F1 H1 v1 st1 r1 => ?_, px⟩
  subst e
  cases r1
  refine ⟨c, rfl, ?_⟩
  cases c with
  | true => exact iteT (pv _ _ q F1 H1 _ st1 (.bl _))
  | false => exact iteF ⟨F1, M1, ρ, _, X', st1.sat, r.mono st1.ff, q, pv.step st1, px.step st1⟩
theorem de_not (ha : PE X a (tE X.K W wa)) : PE X (.UnaryOp .Not a pos) (tE X.K W fun ρ M Q X' => wa ρ M (fun x M1 => ∃ c, x = .bl c ∧ Q (.bl (!c)) M1) X') := by
  refine PE.weak (pe_not ha) fun σ H Q h => ?_
  obtain ⟨F, M, ρ, Q', X', s, r, h, pv, px⟩ := h
  refine ⟨F, M, ρ, _, X', s, r, h, fun d1 M1 ⟨c, e, q⟩ F1 H1 v1 st1 r1 => ?_, px⟩
  subst e
  cases r1
  exact ⟨c, rfl, (pv.step st1).here st1.sat q (.bl _)⟩
abbrev WT := Rho → Mo → (Bool → Mo → Prop) → XQ → Prop
theorem de_ite {c : Expr} {wt : WT} (hc : PT X c (tT X.K W wt)) (ha : PE X a (tE X.K W wa)) (hb : PE X b (tE X.K W wb)) :
    PE X (.IfExp c a b pos) (tE X.K W fun ρ M Q X' => wt ρ M (fun k M1 => if k = true then wa ρ M1 Q X' else wb ρ M1 Q X') X') := by
  refine PE.weak (pe_ifExp hc ha hb) fun σ H Q h => ?_
  obtain ⟨F, M, ρ, Q', X', s, r, h, pv, px⟩ := h
  refine ⟨F, M, ρ, _, X', s, r, h, fun k M1 q F1 H1 st1 => ?_, px⟩
  cases k with
  | true => exact iteT ⟨F1, M1, ρ, _, X', st1.sat, r.mono st1.ff, q, pv.step st1, px.step st1⟩
  | false => exact iteF ⟨F1, M1, ρ, _, X', st1.sat, r.mono st1.ff, q, pv.step st1, px.step st1⟩
abbrev WL := Rho → Mo → (List D → Mo → Prop) → XQ → Prop
theorem da_nil : PA X [] (tL X.K W fun _ M Q _ => Q [] M) := by
  refine PA.weak pa_nil fun σ H Q h => ?_
  obtain ⟨F, M, ρ, Q', X', s, r, h, pl, px⟩ := h
  exact pl _ _ h F H _ (Step.refl s) .nil
theorem da_cons {es : List Expr} {wl : WL} (hs : noStar a = true) (ha : PE X a (tE X.K W wa)) (hr : PA X es (tL X.K W wl)) :
    PA X (a :: es) (tL X.K W fun ρ M Q X' => wa ρ M (fun x M1 => wl ρ M1 (fun xs M2 => Q (x :: xs) M2) X') X') := by
  refine PA.weak (pa_cons ha hr (star_cons hs)) fun σ H Q h => ?_
  obtain ⟨F, M, ρ, Q', X', s, r, h, pl, px⟩ := h
  refine ⟨F, M, ρ, _, X', s, r, h, fun d1 M1 h1 F1 H1 v1 st1 r1 => ?_, px⟩
  exact ⟨F1, M1, ρ, _, X', st1.sat, r.mono st1.ff, h1, fun ds M2 h2 F2 H2 vs st2 r2 => pl _ _ h2 F2 H2 _ (st1.trans st2) (.cons (r1.mono st2.ff) r2), px.step st1⟩
theorem de_tup {es : List Expr} {wl : WL} {k : Nat} (h : PA X es (tL X.K W wl)) : PE X (.Tuple es k pos) (tE X.K W fun ρ M Q X' => wl ρ M (fun ds M1 => ds.length ≤ 16777216 ∧ Q (.tup ds) M1) X') := by
  refine PE.weak (pe_tup h) fun σ H Q h => ?_
  obtain ⟨F, M, ρ, Q', X', s, r, h, pv, px⟩ := h
  refine ⟨F, M, ρ, _, X', s, r, h, fun ds M1 ⟨hz, q⟩ F1 H1 vs st1 r1 => ⟨szl (by rw [r1.length]; exact hz), fun p hp => ?_⟩, px⟩
  exact (pv.step st1).fresh st1.sat q hp (new_tup st1.sat hp r1)
theorem de_lst {es : List Expr} {wl : WL} {m : Bool} (h : PA X es (tL X.K W wl)) :
    PE X (.List es pos) (tE X.K W fun ρ M Q X' => wl ρ M (fun ds M1 => ds.length ≤ 16777216 ∧ if m = true then ∀ p, M1 p = none → Q (.ref p) (updM M1 p (.lst ds)) else Q (.lst ds) M1) X') := by
  refine PE.weak (pe_lst h) fun σ H Q h => ?_
  obtain ⟨F, M, ρ, Q', X', s, r, h, pv, px⟩ := h
  refine ⟨F, M, ρ, _, X', s, r, h, fun ds M1 ⟨hz, q⟩ F1 H1 vs st1 r1 => ⟨szl (by rw [r1.length]; exact hz), fun p hp => ?_⟩, px⟩
  cases m with
  | true => exact (pv.step st1).freshM st1.sat (mo := .lst ds) (by simpa using q) hp ⟨vs, rfl, r1⟩
  | false => exact (pv.step st1).fresh st1.sat (d := .lst ds) (by simpa using q) hp (new_lst st1.sat hp r1)
theorem de_call {es : List Expr} {wl : WL} {k : Nat} {g : Fn} {x : Str} {p : Pos} (hr : Room k X.A) (hf : FnIs X k g) (tk : Takes X W) (hx : g.name = x) (hg : Gl X x) (hn : okNm x = true) (ha : PA X (a :: es) (tL X.K W wl)) (hs : (a :: es).all noStar = true) :
    PE X (.Call (.Name x p) (a :: es) [] pos) (tE X.K W fun ρ M Q X' => wl ρ M (fun ds M1 => ds.length = g.n ∧ g.con ds M1 Q X') X') := by
  subst hx
  obtain ⟨f, fd, ps, F0, hm, hk, hb⟩ := hf
  obtain ⟨h1, h2⟩ := Bool.and_eq_true_iff.mp (by simpa using hs : (noStar a && es.all noStar) = true)
  refine PE.weak (pe_callSD (E := L2.WE W) F0 hr hg hm hk hb .nil (fun σ => passAt tk σ) ha (okNm1 hn) (star_cons h1) (star_any h2)) fun σ H Q h => ?_
  obtain ⟨F, M, ρ, Q', X', s, r, h, pv, px⟩ := h
  refine ⟨F, M, ρ, _, X', s, r, h, fun ds M1 ⟨hl, q⟩ F1 H1 vs st1 r1 => ?_, px⟩
  show spOf X.K g.n g.con (vs ++ []) H1 Q (L2.WE W σ)
  rw [List.append_nil]
  exact ⟨F1, M1, ds, Q', X', st1.sat, r1, hl, q, pv.step st1, px.step st1⟩
theorem de_bi {es : List Expr} {wl : WL} {b' : Bi} {x : Str} {p : Pos} (hc : X.calm = true) (hx : x = b'.name) (hg : Gl X x) (hm : X.mg x = none) (hn : okNm x = true) (ha : PA X (a :: es) (tL X.K W wl)) (hs : (a :: es).all noStar = true) :
    PE X (.Call (.Name x p) (a :: es) [] pos) (tE X.K W fun ρ M Q X' => wl ρ M (fun ds M1 => b'.wp ds M1 Q) X') := by
  subst hx
  obtain ⟨h1, h2⟩ := Bool.and_eq_true_iff.mp (by simpa using hs : (noStar a && es.all noStar) = true)
  cases bi_run hc b' with
  | fn id r c l hv =>
    refine PE.weak (pe_callB c hg hm hv ha (okNm3 hn) (okNm1 hn) (star_cons h1) (star_any h2)) fun σ H Q h => ?_
    obtain ⟨F, M, ρ, Q', X', s, r, h, pv, px⟩ := h
    exact ⟨F, M, ρ, _, X', s, r, h, fun ds M1 q F1 H1 vs st1 r1 => l vs ds F1 H1 M1 Q Q' st1.sat r1 q (pv.step st1), px⟩
  | ty id r c l hv =>
    refine PE.weak (pe_callTy c hg hm hv ha (okNm3 hn) (okNm1 hn) (star_cons h1) (star_any h2)) fun σ H Q h => ?_
    obtain ⟨F, M, ρ, Q', X', s, r, h, pv, px⟩ := h
    exact ⟨F, M, ρ, _, X', s, r, h, fun ds M1 q F1 H1 vs st1 r1 => l vs ds F1 H1 M1 Q Q' st1.sat r1 q (pv.step st1), px⟩
theorem dt_tr (hp : plainT a = true) (ha : PE X a (tE X.K W wa)) : PT X a (tT X.K W fun ρ M Q X' => wa ρ M (fun x M1 => ∃ k, truD M1 x = some k ∧ Q k M1) X') := by
  refine PT.weak (pt_truth ha (plainT_ok hp)) fun σ H Q h => ?_
  obtain ⟨F, M, ρ, Q', X', s, r, h, pv, px⟩ := h
  refine ⟨F, M, ρ, _, X', s, r, h, fun d1 M1 ⟨k, e, q⟩ F1 H1 v1 st1 r1 => ?_, px⟩
  exact ⟨k, tru_rep st1.sat r1 e, pv _ _ q F1 H1 st1⟩
theorem dt_not {wt : WT} (ha : PT X a (tT X.K W wt)) : PT X (.UnaryOp .Not a pos) (tT X.K W fun ρ M Q X' => wt ρ M (fun c M1 => Q (!c) M1) X') := by
  refine PT.weak (pt_not ha) fun σ H Q h => ?_
  obtain ⟨F, M, ρ, Q', X', s, r, h, pv, px⟩ := h
  exact ⟨F, M, ρ, _, X', s, r, h, fun k M1 q F1 H1 st1 => pv _ _ q F1 H1 st1, px⟩
theorem pw_bool {op : BoolOp} {vs : List Expr} {t : TT} (h : PT X (.BoolOp op vs pos) t) : PW X (.BoolOp op vs pos) t := ⟨fun whole pins s σ H Q I q => h.run pins s σ H Q I q⟩
theorem dt_and {rest : List Expr} {wt wu : WT} (ha : PT X a (tT X.K W wt)) (hb : PW X (.BoolOp .And (b :: rest) pos) (tT X.K W wu)) :
    PT X (.BoolOp .And (a :: b :: rest) pos) (tT X.K W fun ρ M Q X' => wt ρ M (fun c M1 => if c = true then wu ρ M1 Q X' else Q false M1) X') := by
  refine PT.weak (PW.pt (pw_and ha hb)) fun σ H Q h => ?_
  obtain ⟨F, M, ρ, Q', X', s, r, h, pv, px⟩ := h
  refine ⟨F, M, ρ, _, X', s, r, h, fun k M1 q F1 H1 st1 => ?_, px⟩
  cases k with
  | true => exact iteT ⟨F1, M1, ρ, _, X', st1.sat, r.mono st1.ff, q, pv.step st1, px.step st1⟩
  | false => exact iteF (pv _ _ q F1 H1 st1)
theorem dt_or {rest : List Expr} {wt wu : WT} (ha : PT X a (tT X.K W wt)) (hb : PW X (.BoolOp .Or (b :: rest) pos) (tT X.K W wu)) :
    PT X (.BoolOp .Or (a :: b :: rest) pos) (tT X.K W fun ρ M Q X' => wt ρ M (fun c M1 => if c = true then Q true M1 else wu ρ M1 Q X') X') := by
  refine PT.weak (PW.pt (pw_or ha hb)) fun σ H Q h => ?_
  obtain ⟨F, M, ρ, Q', X', s, r, h, pv, px⟩ := h
  refine ⟨F, M, ρ, _, X', s, r, h, fun k M1 q F1 H1 st1 => ?_, px⟩
  cases k with
  | true => exact iteT (pv _ _ q F1 H1 st1)
  | false => exact iteF ⟨F1, M1, ρ, _, X', st1.sat, r.mono st1.ff, q, pv.step st1, px.step st1⟩
end
end Vp
namespace Vp
open PySem PySem.Spec PyProof.Rows L2

/-! ### zip over lists and tuples in any mix -/
def SqK (K : PySem.W.Frag) (k : Bool) (H : Hp) (a : Addr) (xs : List V) : Prop := if k = true then SqT K H a xs else SqL K H a xs
def ItAt (k : Bool) (h : Heap) (it l : Addr) (i : Nat) : Prop := if k = true then h.IsTupleIter it l i else h.IsListIter it l i
def ObAt (k : Bool) (h : Heap) (l : Addr) (items : Array Value) : Prop := if k = true then h.IsTuple l items else h.IsList l items
theorem ItAt.there {k : Bool} {h : Heap} {it l : Addr} {i : Nat} (x : ItAt k h it l i) : ∃ o, h.get? it = some o ∧ ∀ v, o.data ≠ .cell v := by
  cases k with
  | true => obtain ⟨o, e, _, d⟩ := x; exact ⟨o, e, fun v q => by rw [d] at q; cases q⟩
  | false => obtain ⟨o, e, _, d⟩ := x; exact ⟨o, e, fun v q => by rw [d] at q; cases q⟩
theorem ItAt.at {k : Bool} {h h' : Heap} {it l : Addr} {i : Nat} (x : ItAt k h it l i) (e : ∀ o, h.get? it = some o → h'.get? it = some o) : ItAt k h' it l i := by
  cases k with
  | true => exact Heap.IsTupleIter.at (show h.IsTupleIter it l i from x) e
  | false => exact Heap.IsListIter.at (show h.IsListIter it l i from x) e
theorem draws {prog : Program} {w : World} {A : Around} (hh : A.handled = none) (k : Bool) (it l : Addr) (hne : l ≠ it) (items : Array Value) :
    Draws prog w A it [it, l] items.size (fun i v => items[i]? = some v) (fun i h => ItAt k h it l i ∧ ObAt k h l items) := by
  cases k with
  | true => exact Draws.tuple hh it l hne items
  | false => exact Draws.list hh it l hne items
def itO (k : Bool) (l : Addr) : Obj := if k = true then { cls := .type "tuple_iterator", data := .fields #[.ref l, .int 0 0] } else { cls := .type "list_iterator", data := .fields #[.ref l, .int 0 0] }
theorem begins {k : Bool} {l : Addr} {items : Array Value} : Begins (.ref l) (itO k l) (fun h => ObAt k h l items) := by
  cases k with
  | true => exact begins_tuple l items
  | false => exact begins_list l items
theorem itO_at {k : Bool} {h : Heap} {it l : Addr} (e : h.get? it = some (itO k l)) : ItAt k h it l 0 := by
  cases k with
  | true => exact ⟨_, e, rfl, rfl⟩
  | false => exact ⟨_, e, rfl, rfl⟩
section
variable {X : Cx} {pins : List (Addr × Obj)} {σ : L2.St} {H : Hp} {s : Shared}
theorem sqk (I : Inv X pins σ H s) {k : Bool} {a : Addr} {xs : List V} (h : SqK X.K k H a xs) : ∃ its : List Value, Vals xs its ∧ ObAt k s.heap a its.toArray ∧ a < s.heap.objs.size := by
  cases k with
  | true =>
    obtain ⟨its, r, p, _⟩ := I.tuple (show SqT X.K H a xs from h)
    obtain ⟨o, ho, _⟩ := id p
    exact ⟨its, r, p, Heap.lt_size ho⟩
  | false =>
    obtain ⟨its, r, p, _⟩ := I.list (show SqL X.K H a xs from h)
    exact ⟨its, r, p.isList, p.lt⟩
theorem sqk_inj (I : Inv X pins σ H s) {k : Bool} {a : Addr} {xs ys : List V} (h : SqK X.K k H a xs) (h' : SqK X.K k H a ys) : xs = ys := by
  cases k with
  | true => exact I.tuple_inj h h'
  | false => exact I.list_inj h h'
end
def ItzG (K : PySem.W.Frag) (ka kb : Bool) (a b : Addr) : It :=
  ⟨fun i H => ∃ (xs ys : List V) (x y : V), SqK K ka H a xs ∧ SqK K kb H b ys ∧ xs[i]? = some x ∧ ys[i]? = some y,
    fun i H v H' => ∃ T x y, v = .ref T ∧ H T = none ∧ H' = upd H T (.tup [x, y]) ∧ (∀ xs, SqK K ka H a xs → xs[i]? = some x) ∧ ∀ ys, SqK K kb H b ys → ys[i]? = some y,
    fun i H => ∃ xs ys : List V, SqK K ka H a xs ∧ SqK K kb H b ys ∧ i ≤ xs.length ∧ i ≤ ys.length ∧ (i = xs.length ∨ i = ys.length)⟩
theorem in1_handled {A : Around} (h : A.handled = none) : A.in1.handled = none := h
theorem it_ne {X : Cx} {pins : List (Addr × Obj)} {σ : L2.St} {H : Hp} {s : Shared} (I : Inv X pins σ H s) {k : Bool} {a it : Addr} {xs : List V} {i : Nat} (hq : SqK X.K k H a xs) (h1 : ItAt k s.heap it a i) (n : H it = none) : a ≠ it := fun z' => by
  cases k with
  | true =>
    obtain ⟨o2, e3, c3, _⟩ := (show s.heap.IsTupleIter it a i from h1)
    rcases (show SqT X.K H a xs from hq) with (q' | ⟨_, q'⟩) | ⟨o', _, _, q', c1, _⟩
    · rw [z', n] at q'; cases q'
    · rw [z', n] at q'; cases q'
    · have e2 := I.kIn a o' q'
      rw [z', e3] at e2; cases e2
      rw [c1] at c3
      exact absurd (Value.type.inj c3) (by decide)
  | false =>
    obtain ⟨o2, e3, c3, _⟩ := (show s.heap.IsListIter it a i from h1)
    rcases (show SqL X.K H a xs from hq) with (q' | ⟨_, q'⟩) | ⟨o', _, _, q', c1, _⟩
    · rw [z', n] at q'; cases q'
    · rw [z', n] at q'; cases q'
    · have e2 := I.kIn a o' q'
      rw [z', e3] at e2; cases e2
      rw [c1] at c3
      exact absurd (Value.type.inj c3) (by decide)
theorem turn_zipG {P : Program} {w : World} {K : PySem.W.Frag} {elts : List Expr} {kk : Nat} {tpos : Pos} {ka kb : Bool} {a b z TI TO i1 i2 : Addr} (D : ZipSep2 z TI TO i1 i2 [i1, a] [i2, b]) :
    Turn P w K (.Tuple elts kk tpos) (ItzG K ka kb a b) [z, TI, TO, i1, i2] z (fun i h => IsZip h z TI TO .none ∧ IsTupOf2 h TI (.ref i1) (.ref i2) ∧ (∃ x y, IsTupOf2 h TO x y) ∧ ItAt ka h i1 a i ∧ ItAt kb h i2 b i) where
  mem := by simp
  obj := fun i h st c hc => by
    obtain ⟨hz, hTI, ⟨x, y, hTO⟩, h1, h2⟩ := st
    have e' : c = z ∨ c = TI ∨ c = TO ∨ c = i1 ∨ c = i2 := by simpa using hc
    rcases e' with q | q | q | q | q
    · rw [q]; exact ⟨_, hz, fun v q => nomatch q⟩
    · rw [q]; exact ⟨_, hTI, fun v q => nomatch q⟩
    · rw [q]; exact ⟨_, hTO, fun v q => nomatch q⟩
    · rw [q]; exact h1.there
    · rw [q]; exact h2.there
  keep := fun i h h' st k => by
    obtain ⟨hz, hTI, ⟨x, y, hTO⟩, h1, h2⟩ := st
    exact ⟨k z (by simp) _ hz, k TI (by simp) _ hTI, ⟨x, y, k TO (by simp) _ hTO⟩, h1.at fun o q => k i1 (by simp) o q, h2.at fun o q => k i2 (by simp) o q⟩
  item := by
    intro X hP hw hK hc i pins s σ H E I hf st hg
    subst hP hw hK
    obtain ⟨hz, hTI, ⟨x0, y0, hTO⟩, h1, h2⟩ := st
    obtain ⟨xs, ys, x, y, hqx, hqy, hx, hy⟩ := hg
    obtain ⟨its, rv, p, _⟩ := sqk I hqx
    obtain ⟨its2, rv2, p2, _⟩ := sqk I hqy
    obtain ⟨u, hu, ru⟩ := rv.get hx
    obtain ⟨u2, hu2, ru2⟩ := rv2.get hy
    have hh := in1_handled (I.ok.hd hc)
    have ne1 : a ≠ i1 := it_ne I hqx h1 (hf i1 (by simp)).1
    have ne2 : b ≠ i2 := it_ne I hqy h2 (hf i2 (by simp)).1
    have hlt : i < its.toArray.size := by
      have := (List.getElem?_eq_some_iff.mp hu).1
      simpa using this
    have hlt2 : i < its2.toArray.size := by
      have := (List.getElem?_eq_some_iff.mp hu2).1
      simpa using this
    have hzl : z < s.heap.objs.size := Heap.lt_size hz
    refine wpAny_pyNext_zipD2_item D (draws hh ka i1 a ne1 its.toArray) (draws hh kb i2 b ne2 its2.toArray) hz hTI hTO ⟨h1, p⟩ ⟨h2, p2⟩ hlt hlt2 fun x1 x2 h' tk e1 e2 z' TO' h1' h2' hT hsz hk => ?_
    have e1' : x1 = u := by
      have : its[i]? = some x1 := by simpa using e1
      rw [hu] at this; exact (Option.some.inj this).symm
    have e2' : x2 = u2 := by
      have : its2[i]? = some x2 := by simpa using e2
      rw [hu2] at this; exact (Option.some.inj this).symm
    subst e1' e2'
    refine ⟨_, rfl, wpAny_letOwnedTupleGo_zip (s := { s with heap := h', toks := tk }) z' fun h'' z'' sb => ?_⟩
    have hT2 : h''.get? s.heap.objs.size = some { cls := .type "tuple", data := .seq #[x1, x2] } := (sb.2 _ (Nat.ne_of_gt hzl)).trans hT
    have new : ObjOk X.prog X.w (upd H s.heap.objs.size (.tup [x, y])) h'' s.heap.objs.size (.tup [x, y]) :=
      ⟨by show 2 ≤ sizeLine; decide, [x1, x2], .cons ru (.cons ru2 .nil), ⟨_, hT2, rfl, _, rfl⟩⟩
    have I1 : Inv X pins σ (upd H s.heap.objs.size (.tup [x, y])) { s with heap := h'', toks := tk } :=
      I.turnedNew (t' := tk) (ch := [z, TI, TO, i1, i2]) (fun c o hb q => (sb.2 c (fun q' => hb (by simp [q']))).trans (hk c o (fun q' => hb (by simp [q'])) (fun q' => hb (by simp [q'])) (fun q' => hb (by simp [q'])) (fun q' => hb (by simp [q'])) q)) hf (Nat.le_refl _) new
    refine ⟨.ref s.heap.objs.size, _, I1, rfl, ⟨_, x, y, rfl, I.hok.fresh (Nat.le_refl _), rfl, fun l hl => by rw [sqk_inj I hl hqx]; exact hx, fun l hl => by rw [sqk_inj I hl hqy]; exact hy⟩, ⟨z'', ?_, ⟨x1, x2, ?_⟩, ?_, ?_⟩, fun c hcm => ?_⟩
    · exact (sb.2 _ D.TIz).trans (hk _ _ D.TIz D.TITO D.TIi1 D.TIi2 hTI)
    · exact (sb.2 _ D.TOz).trans TO'
    · exact h1'.1.at fun o q => (sb.2 _ D.zi1.symm).trans q
    · exact h2'.1.at fun o q => (sb.2 _ D.zi2.symm).trans q
    · have hlt : c < s.heap.objs.size := by
        have e' : c = z ∨ c = TI ∨ c = TO ∨ c = i1 ∨ c = i2 := by simpa using hcm
        rcases e' with q | q | q | q | q
        · rw [q]; exact hzl
        · rw [q]; exact Heap.lt_size hTI
        · rw [q]; exact Heap.lt_size hTO
        · rw [q]; obtain ⟨_, e1, _⟩ := h1.there; exact Heap.lt_size e1
        · rw [q]; obtain ⟨_, e2, _⟩ := h2.there; exact Heap.lt_size e2
      rw [upd_ne (Nat.ne_of_lt hlt)]
      exact (hf c hcm).1
  done := by
    intro X hP hw hK hc i pins s σ H E I hf st hg
    subst hP hw hK
    obtain ⟨hz, hTI, ⟨x0, y0, hTO⟩, h1, h2⟩ := st
    obtain ⟨xs, ys, hqx, hqy, l1', l2', hend⟩ := hg
    obtain ⟨its, rv, p, _⟩ := sqk I hqx
    obtain ⟨its2, rv2, p2, _⟩ := sqk I hqy
    have l1 := rv.length
    have l2 := rv2.length
    have hh := in1_handled (I.ok.hd hc)
    have ne1 : a ≠ i1 := it_ne I hqx h1 (hf i1 (by simp)).1
    have ne2 : b ≠ i2 := it_ne I hqy h2 (hf i2 (by simp)).1
    exact wpAny_pyNext_zipD2_end D (draws hh ka i1 a ne1 its.toArray) (draws hh kb i2 b ne2 its2.toArray) hz hTI hTO ⟨h1, p⟩ ⟨h2, p2⟩ (by simp; omega) (by simp; omega) (by simp; omega) fun h' tk hk => ⟨rfl, I.turnedL (t' := tk) (ch := [z, TI, TO, i1, i2]) (fun c o hb q =>
      hk c o (fun q' => hb (by simp [q'])) (fun q' => hb (by simp [q'])) (fun q' => hb (by simp [q'])) (fun q' => hb (by simp [q'])) q) hf⟩
  self := fun A i s Q E st h => wpAny_pyIter_zip st.1 h

def iZipG (K : PySem.W.Frag) (ta : TA) : TI := fun σ H R => ta σ H fun vs H1 => ∃ ka kb a b xs ys, vs = [.ref a, .ref b] ∧ SqK K ka H1 a xs ∧ SqK K kb H1 b ys ∧ R (ItzG K ka kb a b) H1
theorem pi_zipG {X : Cx} {e e2 : Expr} {ta : TA} {p pos tpos : Pos} {elts : List Expr} {kk : Nat} (hg : Gl X "zip") (hm : X.mg "zip" = none) (ha : PA X [e, e2] ta)
    (hs : starEach [e, e2] X.env = (false, eval e X.env) :: starEach [e2] X.env) (hpl : (backTo pos (starEach [e2] X.env)).any (·.1) = false) :
    PI X (.Tuple elts kk tpos) (.Call (.Name "zip" p) [e, e2] [] pos) (iZipG X.K ta) := by
  refine ⟨fun pins s σ H R I h => ?_⟩
  refine Call_ (ld_blt I hg hm PyProof.Rows.boot_zip (PyProof.Rows.callWith_type1 (thn (ha.run pos pins s σ H _ I h) fun us s1 ⟨vs, H1, I1, r1, q1⟩ => ?_) hs hpl))
  obtain ⟨ka, kb, a, b, xs, ys, ex, hqx, hqy, q1⟩ := q1
  subst ex
  cases r1 with
  | cons r rr =>
    cases rr with
    | cons r' rr =>
      cases rr
      cases r
      cases r'
      have fresh5 : ∀ c, c ∈ [s1.heap.objs.size + 4, s1.heap.objs.size + 2, s1.heap.objs.size + 3, s1.heap.objs.size, s1.heap.objs.size + 1] → FpOk X pins H1 c := fun c hcm => by
        have e' : c = s1.heap.objs.size + 4 ∨ c = s1.heap.objs.size + 2 ∨ c = s1.heap.objs.size + 3 ∨ c = s1.heap.objs.size ∨ c = s1.heap.objs.size + 1 := by simpa using hcm
        have hle : s1.heap.objs.size ≤ c := by
          rcases e' with z | z | z | z | z
          · rw [z]; exact Nat.le_add_right _ _
          · rw [z]; exact Nat.le_add_right _ _
          · rw [z]; exact Nat.le_add_right _ _
          · rw [z]; exact Nat.le_refl _
          · rw [z]; exact Nat.le_add_right _ _
        exact I1.fpOk hle (I1.hok.fresh hle)
      obtain ⟨its, rv, p1, la⟩ := sqk I1 hqx
      obtain ⟨its2, rv2, p2, lb⟩ := sqk I1 hqy
      refine zip_begins2 (begins (k := ka)) (begins (k := kb)) p1 p2 fun h' hz hTI hTO h1 h2 hsz hk => wpAny_pyIter_zip hz ?_
      have I2 : Inv X pins σ H1 { s1 with heap := h' } := I1.kept (t' := s1.toks) hk
      refine ⟨s1.heap.objs.size + 4, [s1.heap.objs.size + 4, s1.heap.objs.size + 2, s1.heap.objs.size + 3, s1.heap.objs.size, s1.heap.objs.size + 1], _, _, H1, rfl, I2, turn_zipG (ka := ka) (kb := kb) (zip_sep2 (N := s1.heap.objs.size) (fp1 := [a]) (fp2 := [b]) ?_ ?_), ⟨hz, hTI, ⟨_, _, hTO⟩, itO_at h1, itO_at h2⟩, fresh5, q1⟩
      · intro c hc; rw [List.mem_singleton.mp hc]; exact la
      · intro c hc; rw [List.mem_singleton.mp hc]; exact lb
end Vp
namespace Vp
open PySem PySem.Spec PyProof.Rows L2

/-! ### what is walked -/
structure Walks (K : PySem.W.Frag) (F0 : Hp) (J : It) (ds : List D) : Prop where
  go : ∀ i H, Ex F0 H → i < ds.length → J.go i H
  stop : ∀ H, Ex F0 H → J.stop ds.length H
  yld : ∀ (i : Nat) (d : D) (H : Hp) (x : V) (H' F : Hp) (M : Mo), Ex F0 F → Sat K F H M → ds[i]? = some d → J.yld i H x H' → ∃ F', Step K F M H F' M H' ∧ Rep K F' x d
def tI (K : PySem.W.Frag) (W : WX) (w : WL) : TI := fun σ H R => ∃ F M ρ Q' X', Sat K F H M ∧ RepE K F σ ρ ∧ w ρ M Q' X' ∧ (∀ ds M', Q' ds M' → ∀ F' H' J, Step K F M H F' M' H' → Walks K F' J ds → R J H') ∧ PX K F M H W σ X'
theorem PI.weak {X : Cx} {tg e : Expr} {t t' : TI} (h : PI X tg e t) (i : ∀ σ H R, t' σ H R → t σ H R) : PI X tg e t' := ⟨fun pins s σ H Q I q => h.run pins s σ H Q I (i σ H Q q)⟩
section
variable {K : PySem.W.Frag}
theorem walks_list {F : Hp} {a : Addr} {xs : List V} {ds : List D} (h : SqL K F a xs) (r : RepL K F xs ds) : Walks K F (Itl K a) ds where
  go := fun i H e hi => by
    have hi' : i < xs.length := by rw [r.length]; exact hi
    exact ⟨xs, xs[i], ex_l e h, List.getElem?_eq_getElem hi'⟩
  stop := fun H e => ⟨xs, ex_l e h, Nat.le_of_eq r.length⟩
  yld := fun i d H x H' F' M e s hd y => by
    obtain ⟨rfl, y⟩ := y
    obtain ⟨v, hv, rv⟩ := r.get hd
    have hx := y xs (ex_l (e.trans s.ex) h)
    rw [hv] at hx; cases hx
    exact ⟨F', Step.refl s, rv.mono e⟩
theorem walks_tup {F : Hp} {a : Addr} {xs : List V} {ds : List D} (h : SqT K F a xs) (r : RepL K F xs ds) : Walks K F (Itt K a) ds where
  go := fun i H e hi => by
    have hi' : i < xs.length := by rw [r.length]; exact hi
    exact ⟨xs, xs[i], ex_t e h, List.getElem?_eq_getElem hi'⟩
  stop := fun H e => ⟨xs, ex_t e h, Nat.le_of_eq r.length⟩
  yld := fun i d H x H' F' M e s hd y => by
    obtain ⟨rfl, y⟩ := y
    obtain ⟨v, hv, rv⟩ := r.get hd
    have hx := y xs (ex_t (e.trans s.ex) h)
    rw [hv] at hx; cases hx
    exact ⟨F', Step.refl s, rv.mono e⟩
theorem walks_range {F : Hp} {lo : Int} {n : Nat} : Walks K F (Itr lo n) ((List.range n).map fun (i : Nat) => .int (lo + (i : Int))) where
  go := fun i H e hi => by
    have hi' : i < n := by simpa using hi
    exact hi'
  stop := fun H e => by show n ≤ _; simp
  yld := fun i d H x H' F' M e s hd y => by
    obtain ⟨rfl, rfl⟩ := y
    have hi : i < n := by
      have := (List.getElem?_eq_some_iff.mp hd).1
      simpa using this
    have : d = .int (lo + (i : Int)) := by
      rw [List.getElem?_map, List.getElem?_range hi] at hd
      exact (Option.some.inj hd).symm
    subst this
    exact ⟨F', Step.refl s, .int _⟩
theorem sqk_ex {k : Bool} {F H : Hp} {a : Addr} {xs : List V} (e : Ex F H) (h : SqK K k F a xs) : SqK K k H a xs := by
  cases k with
  | true => exact ex_t e h
  | false => exact ex_l e h
theorem zip_get {xs ys : List D} {i : Nat} {d : D} (h : (List.zipWith prD xs ys)[i]? = some d) : ∃ x y, xs[i]? = some x ∧ ys[i]? = some y ∧ d = prD x y := by
  rw [List.getElem?_zipWith] at h
  cases h1 : xs[i]? with
  | none => rw [h1] at h; cases h
  | some x =>
    cases h2 : ys[i]? with
    | none => rw [h1, h2] at h; cases h
    | some y => rw [h1, h2] at h; exact ⟨x, y, rfl, rfl, (Option.some.inj h).symm⟩
theorem walks_zip {F : Hp} {ka kb : Bool} {a b : Addr} {us vs : List V} {xs ys : List D} (h1 : SqK K ka F a us) (r1 : RepL K F us xs) (h2 : SqK K kb F b vs) (r2 : RepL K F vs ys) : Walks K F (ItzG K ka kb a b) (List.zipWith prD xs ys) where
  go := fun i H e hi => by
    rw [List.length_zipWith] at hi
    have i1 : i < us.length := by rw [r1.length]; omega
    have i2 : i < vs.length := by rw [r2.length]; omega
    exact ⟨us, vs, us[i], vs[i], sqk_ex e h1, sqk_ex e h2, List.getElem?_eq_getElem i1, List.getElem?_eq_getElem i2⟩
  stop := fun H e => by
    have l1 := r1.length
    have l2 := r2.length
    refine ⟨us, vs, sqk_ex e h1, sqk_ex e h2, ?_, ?_, ?_⟩ <;> rw [List.length_zipWith] <;> omega
  yld := fun i d H x H' F' M e s hd y => by
    obtain ⟨T, u, v, rfl, hT, rfl, f1, f2⟩ := y
    obtain ⟨x, y, hx, hy, rfl⟩ := zip_get hd
    obtain ⟨u', hu, ru⟩ := r1.get hx
    obtain ⟨v', hv, rv⟩ := r2.get hy
    have q1 := f1 us (sqk_ex (e.trans s.ex) h1)
    have q2 := f2 vs (sqk_ex (e.trans s.ex) h2)
    rw [hu] at q1; cases q1
    rw [hv] at q2; cases q2
    exact ⟨_, s.newF hT _, new_tup s hT (.cons (ru.mono e) (.cons (rv.mono e) .nil))⟩
theorem walks_enum {F : Hp} {a : Addr} {us : List V} {xs : List D} (h : SqL K F a us) (r : RepL K F us xs) : Walks K F (Ite K a) (xs.zipIdx.map fun p => prD (.int (p.2 : Nat)) p.1) where
  go := fun i H e hi => by
    have hi' : i < us.length := by rw [r.length]; simpa using hi
    exact ⟨us, us[i], ex_l e h, List.getElem?_eq_getElem hi'⟩
  stop := fun H e => ⟨us, ex_l e h, by rw [r.length]; simp⟩
  yld := fun i d H x H' F' M e s hd y => by
    obtain ⟨T, u, rfl, hT, rfl, f1⟩ := y
    rw [List.getElem?_map, List.getElem?_zipIdx] at hd
    cases hx : xs[i]? with
    | none => rw [hx] at hd; cases hd
    | some x =>
      rw [hx] at hd
      obtain ⟨u', hu, ru⟩ := r.get hx
      have q1 := f1 us (ex_l (e.trans s.ex) h)
      rw [hu] at q1; cases q1
      have : d = prD (.int (i : Nat)) x := by
        simp at hd
        exact hd.symm
      subst this
      exact ⟨_, s.newF hT _, new_tup s hT (.cons (.int _) (.cons (ru.mono e) .nil))⟩
theorem seqF_rep {F : Hp} {v : V} {d : D} (r : Rep K F v d) {ds : List D} (h : seqF d = some ds) : ∃ a xs k, v = .ref a ∧ SqK K k F a xs ∧ RepL K F xs ds := by
  cases r with
  | @tup a xs es h1 r1 => cases h; exact ⟨a, xs, true, rfl, h1, r1⟩
  | @lst a xs es h1 r1 => cases h; exact ⟨a, xs, false, rfl, h1, r1⟩
  | _ => cases h
end
section
variable {X : Cx} {W : WX} {tg a b : Expr} {wa wb : VE} {p pos : Pos}
/-- a list or a tuple -/
def iSeq (K : PySem.W.Frag) (tl : TE) : TI := fun σ H R => tl σ H fun x H1 => ∃ a k xs, x = .ref a ∧ SqK K k H1 a xs ∧ R (if k = true then Itt K a else Itl K a) H1
theorem pi_seq {l : Expr} {tl : TE} (hl : PE X l tl) : PI X tg l (iSeq X.K tl) := by
  refine ⟨fun pins s σ H R I h => ?_⟩
  refine thn (hl.run pins s σ H _ I h) fun v s1 ⟨x, H1, I1, r1, q1⟩ => ?_
  obtain ⟨a, k, xs, e, hq, q⟩ := q1
  subst e
  cases r1
  cases k with
  | false =>
    obtain ⟨its, rv, p, hz⟩ := I1.list (show SqL X.K H1 a xs from hq)
    refine wpAny_pyIter_list p.isList ?_
    refine ⟨s1.heap.objs.size, [s1.heap.objs.size], _, _, H1, rfl, I1.kept (t' := s1.toks) fun b o e => Heap.get?_push_of_some _ e, turn_list a _, ⟨_, Heap.get?_push_size _ rfl, rfl, rfl⟩, fun b hb => ?_, q⟩
    have e : b = s1.heap.objs.size := by simpa using hb
    subst e
    exact I1.fpOk (Nat.le_refl _) (I1.hok.fresh (Nat.le_refl _))
  | true =>
    obtain ⟨its, rv, p, hz⟩ := I1.tuple (show SqT X.K H1 a xs from hq)
    refine wpAny_pyIter_tuple (show s1.heap.IsTuple a its.toArray from p) ?_
    refine ⟨s1.heap.objs.size, [s1.heap.objs.size], _, _, H1, rfl, I1.kept (t' := s1.toks) fun b o e => Heap.get?_push_of_some _ e, turn_tuple a _, ⟨_, Heap.get?_push_size _ rfl, rfl, rfl⟩, fun b hb => ?_, q⟩
    have e : b = s1.heap.objs.size := by simpa using hb
    subst e
    exact I1.fpOk (Nat.le_refl _) (I1.hok.fresh (Nat.le_refl _))
theorem di_seq (ha : PE X a (tE X.K W wa)) : PI X tg a (tI X.K W fun ρ M Q X' => wa ρ M (fun x M1 => ∃ ds, seqF x = some ds ∧ Q ds M1) X') := by
  refine PI.weak (pi_seq ha) fun σ H R h => ?_
  obtain ⟨F, M, ρ, Q', X', s, r, h, pr, px⟩ := h
  refine ⟨F, M, ρ, _, X', s, r, h, fun d1 M1 ⟨ds, e, q⟩ F1 H1 v1 st1 r1 => ?_, px⟩
  obtain ⟨c, xs, k, rfl, hs, rl⟩ := seqF_rep r1 e
  refine ⟨c, k, xs, rfl, sqk_ex st1.fh hs, ?_⟩
  cases k with
  | true => exact pr ds M1 q F1 H1 _ st1 (walks_tup hs rl)
  | false => exact pr ds M1 q F1 H1 _ st1 (walks_list hs rl)
theorem di_range1 (hg : Gl X "range") (hm : X.mg "range" = none) (hs : noStar a = true) (ha : PE X a (tE X.K W wa)) :
    PI X tg (.Call (.Name "range" p) [a] [] pos) (tI X.K W fun ρ M Q X' => wa ρ M (fun x M1 => ∃ n : Int, x = .int n ∧ -(2 ^ 62) ≤ n ∧ n < 2 ^ 62 ∧ Q ((List.range n.toNat).map fun (i : Nat) => .int (0 + (i : Int))) M1) X') := by
  refine PI.weak (pi_range1 hg hm (pa_cons ha pa_nil (star_cons hs)) (star_cons hs)) fun σ H R h => ?_
  obtain ⟨F, M, ρ, Q', X', s, r, h, pr, px⟩ := h
  refine ⟨F, M, ρ, _, X', s, r, h, fun d1 M1 ⟨n, e, h1, h2, q⟩ F1 H1 v1 st1 r1 => ?_, px⟩
  subst e
  cases r1
  exact ⟨n, rfl, h1, h2, pr _ M1 q F1 H1 _ st1 walks_range⟩
theorem di_range2 (hg : Gl X "range") (hm : X.mg "range" = none) (hs : noStar a = true) (hs2 : noStar b = true) (ha : PE X a (tE X.K W wa)) (hb : PE X b (tE X.K W wb)) :
    PI X tg (.Call (.Name "range" p) [a, b] [] pos) (tI X.K W fun ρ M Q X' => wa ρ M (fun x M1 => wb ρ M1 (fun y M2 => ∃ n m : Int, x = .int n ∧ y = .int m ∧ (-(2 ^ 62) ≤ n ∧ n < 2 ^ 62 ∧ -(2 ^ 62) ≤ m ∧ m < 2 ^ 62) ∧ Q ((List.range (m - n).toNat).map fun (i : Nat) => .int (n + (i : Int))) M2) X') X') := by
  refine PI.weak (pi_range2 hg hm (pa_cons ha (pa_cons hb pa_nil (star_cons hs2)) (star_cons hs)) (by rw [star_cons hs, star_cons hs2]; rfl) (star_cons hs2)) fun σ H R h => ?_
  obtain ⟨F, M, ρ, Q', X', s, r, h, pr, px⟩ := h
  refine two s r h px fun x y d1 d2 F2 M2 H2 st r1 r2 q => ?_
  obtain ⟨n, m, rfl, rfl, hb, q⟩ := q
  cases r1; cases r2
  exact ⟨n, m, rfl, hb, pr _ M2 q F2 H2 _ st walks_range⟩
theorem di_zip {elts : List Expr} {kk : Nat} {tpos : Pos} (hg : Gl X "zip") (hm : X.mg "zip" = none) (hs : noStar a = true) (hs2 : noStar b = true) (ha : PE X a (tE X.K W wa)) (hb : PE X b (tE X.K W wb)) :
    PI X (.Tuple elts kk tpos) (.Call (.Name "zip" p) [a, b] [] pos) (tI X.K W fun ρ M Q X' => wa ρ M (fun x M1 => wb ρ M1 (fun y M2 => ∃ xs ys, seqF x = some xs ∧ seqF y = some ys ∧ Q (List.zipWith prD xs ys) M2) X') X') := by
  refine PI.weak (pi_zipG hg hm (pa_cons ha (pa_cons hb pa_nil (star_cons hs2)) (star_cons hs)) (star_cons hs) (star_any (by simp [hs2]))) fun σ H R h => ?_
  obtain ⟨F, M, ρ, Q', X', s, r, h, pr, px⟩ := h
  refine two s r h px fun x y d1 d2 F2 M2 H2 st r1 r2 q => ?_
  obtain ⟨xs, ys, e1, e2, q⟩ := q
  obtain ⟨c1, us, k1, rfl, h1, l1⟩ := seqF_rep r1 e1
  obtain ⟨c2, vs, k2, rfl, h2, l2⟩ := seqF_rep r2 e2
  exact ⟨k1, k2, c1, c2, us, vs, rfl, sqk_ex st.fh h1, sqk_ex st.fh h2, pr _ M2 q F2 H2 _ st (walks_zip h1 l1 h2 l2)⟩
theorem di_enum {elts : List Expr} {kk : Nat} {tpos : Pos} (hg : Gl X "enumerate") (hm : X.mg "enumerate" = none) (hs : noStar a = true) (ha : PE X a (tE X.K W wa)) :
    PI X (.Tuple elts kk tpos) (.Call (.Name "enumerate" p) [a] [] pos) (tI X.K W fun ρ M Q X' => wa ρ M (fun x M1 => ∃ xs, seqL x = some xs ∧ Q (xs.zipIdx.map fun p => prD (.int (p.2 : Nat)) p.1) M1) X') := by
  refine PI.weak (pi_enum hg hm (pa_cons ha pa_nil (star_cons hs)) (star_cons hs)) fun σ H R h => ?_
  obtain ⟨F, M, ρ, Q', X', s, r, h, pr, px⟩ := h
  refine ⟨F, M, ρ, _, X', s, r, h, fun d1 M1 ⟨xs, e, q⟩ F1 H1 v1 st1 r1 => ?_, px⟩
  cases r1 with
  | @lst c us es h1 rl =>
    cases e
    exact ⟨c, us, rfl, ex_l st1.fh h1, pr _ M1 q F1 H1 _ st1 (walks_enum h1 rl)⟩
  | _ => cases e
end

/-! ### targets -/
def tG (K : PySem.W.Frag) (t : Tg) : TG := fun v σ H Q => ∃ F d ρ ρ', Ex F H ∧ Rep K F v d ∧ RepE K F σ ρ ∧ bindT t d ρ = some ρ' ∧
  ∀ σ', RepE K F σ' ρ' → (∀ vs : List Nat, (∀ j ∈ slotsT t, j ∈ vs) → L2.wipe σ' vs = L2.wipe σ vs) → Q σ' H
def tGs (K : PySem.W.Frag) (t : Tgs) : TGs := fun xs σ H Q => ∃ F ds ρ ρ', Ex F H ∧ RepL K F xs ds ∧ RepE K F σ ρ ∧ bindTs t ds ρ = some ρ' ∧
  ∀ σ', RepE K F σ' ρ' → (∀ vs : List Nat, (∀ j ∈ slotsTs t, j ∈ vs) → L2.wipe σ' vs = L2.wipe σ vs) → Q σ' H
theorem PG.weak {X : Cx} {e : Expr} {t t' : TG} (h : PG X e t) (i : ∀ v σ H Q, t' v σ H Q → t v σ H Q) : PG X e t' := ⟨fun pins s σ H x v Q I r q => h.run pins s σ H x v Q I r (i _ _ _ _ q)⟩
theorem PGs.weak {X : Cx} {e : List Expr} {t t' : TGs} (h : PGs X e t) (i : ∀ v σ H Q, t' v σ H Q → t v σ H Q) : PGs X e t' := ⟨fun pins s σ H x v Q I r q => h.run pins s σ H x v Q I r (i _ _ _ _ q)⟩
theorem wipe_set {σ : L2.St} {i : Nat} {x : Option V} : ∀ {vs : List Nat}, i ∈ vs → L2.wipe (σ.set i x) vs = L2.wipe σ vs
  | [], h => by cases h
  | v :: vs, h => by
    unfold L2.wipe
    by_cases e : i ∈ vs
    · rw [wipe_set e]
    · have e2 : i = v := by
        rcases List.mem_cons.mp h with z | z
        · exact z
        · exact absurd z e
      subst e2
      have aux : ∀ {ws : List Nat}, i ∉ ws → L2.wipe (σ.set i x) ws = (L2.wipe σ ws).set i x := fun {ws} hw => by
        induction ws with
        | nil => rfl
        | cons w ws ih =>
          simp only [List.mem_cons, not_or] at hw
          show (L2.wipe (σ.set i x) ws).set w none = ((L2.wipe σ ws).set w none).set i x
          rw [ih hw.2, List.set_comm _ _ hw.1]
      rw [aux e, List.set_set]
theorem asg_cons {e : Expr} (h : noStar e = true) {es : List Expr} {env : Env} : assignEach (e :: es) env = (false, assign e env) :: assignEach es env := by
  cases e <;> first | rfl | cases h
theorem isTg_star {c : SC} {t : Tg} {e : Expr} (h : isTg c t e = true) : noStar e = true := by
  cases t <;> cases e <;> first | rfl | (unfold isTg at h; cases h)
theorem asg_len {c : SC} {env : Env} : ∀ {t : Tgs} {es : List Expr}, isTgs c t es = true → (assignEach es env).length = es.length ∧ List.findIdx? (fun x => x.fst) (assignEach es env) = none
  | .nil, [], _ => ⟨rfl, rfl⟩
  | .nil, _ :: _, h => by unfold isTgs at h; cases h
  | .cons t r, [], h => by unfold isTgs at h; cases h
  | .cons t r, e :: es, h => by
    unfold isTgs at h
    obtain ⟨h1, h2⟩ := and2 h
    obtain ⟨a, b⟩ := asg_len (env := env) h2
    rw [asg_cons (isTg_star h1)]
    refine ⟨by rw [List.length_cons, List.length_cons, a], ?_⟩
    rw [List.findIdx?_cons, b]; rfl
mutual
theorem sTg {X : Cx} {c : SC} (hN : X.N = c.N) (nd : c.N.Nodup) (hsc : X.env.scope = c.sc) (hfn : ∀ x, c.fnm x = true → X.fn x = true) (hcalm : c.calm = true → X.calm = true) : ∀ (t : Tg) (e : Expr), isTg c t e = true → PG X e (tG X.K t)
  | .nm i, e, h => by
    cases e <;> first | (unfold isTg at h; cases h; done) | skip
    rename_i x p
    unfold isTg at h
    obtain ⟨h1, h2⟩ := and2 h
    obtain ⟨l, f⟩ := locB_ok h2
    have hi : X.N[i]? = some x := by rw [hN]; exact of_decide_eq_true h1
    refine PG.weak (pg_name (i := i) (by rw [hN]; exact nd) hi (by rw [hsc]; exact l) (f.imp (hfn x) fun z => by rw [hsc]; exact z)) fun v σ H Q q => ?_
    obtain ⟨F, d, ρ, ρ', ex, r, re, hb, k⟩ := q
    have hb : some (ρ.set i (some d)) = some ρ' := hb
    cases hb
    refine k _ (re.set r) fun vs hv => wipe_set (hv i (by simp [slotsT]))
  | .tup ts, e, h => by
    cases e <;> first | (unfold isTg at h; cases h; done) | skip
    rename_i es k p
    unfold isTg at h
    obtain ⟨h1, h2⟩ := and2 h
    refine PG.weak (pg_tup (n := es.length) (hcalm h1) (sTgs hN nd hsc hfn hcalm ts es h2) (asg_len h2).1 (asg_len h2).2) fun v σ H Q q => ?_
    obtain ⟨F, d, ρ, ρ', ex, r, re, hb, kk⟩ := q
    cases d <;> first | (unfold bindT at hb; cases hb; done) | skip
    rename_i ds
    unfold bindT at hb
    cases r with
    | @tup a xs _ h3 rl =>
      have hl : xs.length = es.length := by
        rw [rl.length]
        exact bind_len ts ds ρ ρ' hb es h2
      exact ⟨a, xs, rfl, ex_t ex h3, hl, F, ds, ρ, ρ', ex, rl, re, hb, kk⟩
theorem sTgs {X : Cx} {c : SC} (hN : X.N = c.N) (nd : c.N.Nodup) (hsc : X.env.scope = c.sc) (hfn : ∀ x, c.fnm x = true → X.fn x = true) (hcalm : c.calm = true → X.calm = true) : ∀ (t : Tgs) (es : List Expr), isTgs c t es = true → PGs X es (tGs X.K t)
  | .nil, [], _ => PGs.weak pgs_nil fun v σ H Q q => by
    obtain ⟨F, ds, ρ, ρ', ex, r, re, hb, k⟩ := q
    cases r with
    | nil =>
      have hb : some ρ = some ρ' := hb
      cases hb
      exact ⟨rfl, k σ re fun _ _ => rfl⟩
    | cons h t => cases hb
  | .nil, _ :: _, h => by unfold isTgs at h; cases h
  | .cons t r, [], h => by unfold isTgs at h; cases h
  | .cons t r, e :: es, h => by
    unfold isTgs at h
    obtain ⟨h1, h2⟩ := and2 h
    refine PGs.weak (pgs_cons (sTg hN nd hsc hfn hcalm t e h1) (sTgs hN nd hsc hfn hcalm r es h2) (by rw [asg_cons (isTg_star h1)]; rfl)) fun vs σ H Q q => ?_
    obtain ⟨F, ds, ρ, ρ', ex, rl, re, hb, k⟩ := q
    cases rl with
    | nil => unfold bindTs at hb; cases hb
    | @cons v d vs ds r1 r2 =>
      unfold bindTs at hb
      cases e1 : bindT t d ρ with
      | none => simp only [e1] at hb; cases hb
      | some ρ1 =>
        simp only [e1] at hb
        refine ⟨v, vs, rfl, F, d, ρ, ρ1, ex, r1, re, e1, fun σ1 re1 w1 => ?_⟩
        refine ⟨F, ds, ρ1, ρ', ex, r2, re1, hb, fun σ2 re2 w2 => k σ2 re2 fun ws hw => ?_⟩
        rw [w2 ws fun j hj => hw j (by simp [slotsTs, hj]), w1 ws fun j hj => hw j (by simp [slotsTs, hj])]
theorem bind_len {c : SC} : ∀ (t : Tgs) (ds : List D) (ρ ρ' : Rho), bindTs t ds ρ = some ρ' → ∀ es : List Expr, isTgs c t es = true → ds.length = es.length
  | .nil, [], _, _, _, [], _ => rfl
  | .nil, [], _, _, _, _ :: _, h => by unfold isTgs at h; cases h
  | .nil, _ :: _, _, _, h, _, _ => by unfold bindTs at h; cases h
  | .cons t r, [], _, _, h, _, _ => by unfold bindTs at h; cases h
  | .cons t r, d :: ds, ρ, ρ', h, [], q => by unfold isTgs at q; cases q
  | .cons t r, d :: ds, ρ, ρ', h, e :: es, q => by
    unfold bindTs at h
    unfold isTgs at q
    cases e1 : bindT t d ρ with
    | none => simp only [e1] at h; cases h
    | some ρ1 =>
      simp only [e1] at h
      show ds.length + 1 = es.length + 1
      rw [bind_len r ds ρ1 ρ' h es (and2 q).2]
end
end Vp
namespace Vp
open PySem PySem.Spec PyProof.Rows L2

section
variable {K : PySem.W.Frag} {F F1 H H1 : Hp} {M M1 : Mo} {D : Addr} {o : HO}
/-- a new object that was not told of is told now -/
theorem Step.adopt (s : Step K F1 M1 H1 F M H) (h1 : H1 D = none) (f : F D = none) (m : M D = none) (h : H D = some o) : Step K F1 M1 H1 (upd F D o) M H where
  ff := s.ff.new (s.ff.none f)
  fh := fun a u e => by
    by_cases z : a = D
    · subst z; rw [upd_same] at e; cases e; exact h
    · rw [upd_ne z] at e; exact s.fh a u e
  m := fun a mo e => by
    have z : a ≠ D := fun z => by rw [z, m] at e; cases e
    obtain ⟨f1, ho, h2, r⟩ := s.m a mo e
    exact ⟨by rw [upd_ne z]; exact f1, ho, h2, r.mono ((Ex.refl F).new f)⟩
  keep := s.keep
  newF := fun a e n g => by
    have z : a ≠ D := fun z => by rw [z] at e; exact e h1
    rw [upd_ne z]; exact s.newF a e n g
  newM := s.newM
theorem Step.adoptM (s : Step K F1 M1 H1 F M H) (h1 : H1 D = none) (f : F D = none) {mo : MO} (h : H D = some o) (r : RepO K F o mo) : Step K F1 M1 H1 F (updM M D mo) H where
  ff := s.ff
  fh := s.fh
  m := fun a mo' e => by
    by_cases z : a = D
    · subst z; rw [updM_same] at e; cases e; exact ⟨f, o, h, r⟩
    · rw [updM_ne z] at e; exact s.m a mo' e
  keep := s.keep
  newF := s.newF
  newM := fun a e n => by
    have z : a ≠ D := fun z => by rw [z] at e; exact e h1
    rw [updM_ne z]; exact s.newM a e n
/-- .. and changes, untold -/
theorem Step.poke (s : Step K F1 M1 H1 F M H) (h1 : H1 D = none) (f : F D = none) (m : M D = none) : Step K F1 M1 H1 F M (upd H D o) where
  ff := s.ff
  fh := fun a u e => by
    have z : a ≠ D := fun z => by rw [z, f] at e; cases e
    rw [upd_ne z]; exact s.fh a u e
  m := fun a mo e => by
    have z : a ≠ D := fun z => by rw [z, m] at e; cases e
    obtain ⟨f1, ho, h2, r⟩ := s.m a mo e
    exact ⟨f1, ho, by rw [upd_ne z]; exact h2, r⟩
  keep := fun a u e n => by
    have z : a ≠ D := fun z => by rw [z, h1] at e; cases e
    rw [upd_ne z]; exact s.keep a u e n
  newF := s.newF
  newM := s.newM
end

def W0 : WX := fun _ _ _ _ => False
theorem px0 {K : PySem.W.Frag} {F : Hp} {M : Mo} {H : Hp} {σ : L2.St} : PX K F M H W0 σ noX := fun _ _ _ h => absurd h id
/-- [elt for target in iter (if ..)] -/
theorem de_comp {X : Cx} {W : WX} {elt tg iter : Expr} {ifs : List Expr} {scope : Scope} {pos : Pos} {own : List (Str × Nat)} {wi : WL} {t : Tg} {wt : WT} {we : VE} {m : Bool} (hc : X.calm = true) (hN : X.N.Nodup) (hi : PI X tg iter (tI X.K W wi)) (ok : BlkOk X.N X.env.scope scope own) (ho : own.map (·.2) = slotsT t)
    (hg : ∀ (s : Shared) (H : Hp) (C : Addr) (cl : List (Str × Addr)) (fp : List Addr), PG (X.blk s H scope (compEnvC scope cl C X.env) fp) tg (tG X.K t)) (ht : ∀ (s : Shared) (H : Hp) (C : Addr) (cl : List (Str × Addr)) (fp : List Addr), PTs (X.blk s H scope (compEnvC scope cl C X.env) fp) ifs (tT X.K W0 wt))
    (he : ∀ (s : Shared) (H : Hp) (C : Addr) (cl : List (Str × Addr)) (fp : List Addr), PE (X.blk s H scope (compEnvC scope cl C X.env) fp) elt (tE X.K W0 we)) :
    ∀ σ H Q, tE X.K W (fun ρ M Q X' => wi ρ M (fun ds M1 => ds.length ≤ 16777216 ∧ vComp we wt t ρ ds [] M1 (fun acc M2 => if m = true then ∀ p, M2 p = none → Q (.ref p) (updM M2 p (.lst acc)) else Q (.lst acc) M2)) X') σ H Q →
      tLc (tI X.K W wi) (tG X.K t) (tT X.K W0 wt) (tE X.K W0 we) (own.map (·.2)) σ H Q := by
  intro σ H Q h
  obtain ⟨F, M, ρ, Q', X', s, re, h, pv, px⟩ := h
  rw [ho]
  refine ⟨F, M, ρ, _, X', s, re, h, fun ds M1 ⟨hz, hw⟩ F1 H1 J st1 wk => ?_, px⟩
  intro D hD
  obtain ⟨fD, mD⟩ := st1.sat.none hD
  refine ⟨fun i mm H' => mm = ds.length - i ∧ i ≤ ds.length ∧ ∃ F2 M2 accV acc, Step X.K F1 M1 H1 F2 M2 H' ∧ F2 D = none ∧ M2 D = none ∧ H' D = some (.lst accV) ∧ RepL X.K F2 accV acc ∧ acc.length ≤ i ∧
      vComp we wt t ρ (ds.drop i) acc M2 (fun acc M2 => if m = true then ∀ p, M2 p = none → Q' (.ref p) (updM M2 p (.lst acc)) else Q' (.lst acc) M2),
    ⟨ds.length, by simp, Nat.zero_le _, F1, M1, [], [], st1.sat.newH hD _, fD, mD, upd_same, .nil, Nat.le_refl _, hw⟩, ?_⟩
  rintro i mm H2 ⟨rfl, hi2, F2, M2, accV, acc, st2, fD2, mD2, hD2, ra, hla, hw2⟩
  by_cases hlt : i < ds.length
  · refine .inr ⟨wk.go i H2 (st2.ff.trans st2.fh) hlt, fun H' => ∃ F2 M2 accV acc, Step X.K F1 M1 H1 F2 M2 H' ∧ F2 D = none ∧ M2 D = none ∧ H' D = some (.lst accV) ∧ RepL X.K F2 accV acc ∧ acc.length ≤ i + 1 ∧
        vComp we wt t ρ (ds.drop (i + 1)) acc M2 (fun acc M2 => if m = true then ∀ p, M2 p = none → Q' (.ref p) (updM M2 p (.lst acc)) else Q' (.lst acc) M2), fun H' n => ⟨ds.length - (i + 1), by omega, rfl, hlt, n⟩, fun x H3 y => ?_⟩
    have hd : ds[i]? = some ds[i] := List.getElem?_eq_getElem hlt
    obtain ⟨F3, st3, rx⟩ := wk.yld i ds[i] H2 x H3 F2 M2 st2.ff st2.sat hd y
    rw [List.drop_eq_getElem_cons hlt] at hw2
    obtain ⟨ρ', hb, hw3⟩ := hw2
    have stA := st2.trans st3
    have nD2 : H2 D ≠ none := by rw [hD2]; simp
    have fD3 : F3 D = none := st3.newF D nD2 mD2 fD2
    have hD3 : H3 D = some (.lst accV) := st3.keep D _ hD2 mD2
    refine ⟨F3, ds[i], wipeR ρ (slotsT t), ρ', st3.fh, rx, (re.mono (st1.ff.trans stA.ff)).wipe _, hb, fun σ2 re2 w2 => ⟨?_, ?_⟩⟩
    · have e := w2 (slotsT t) fun j hj => hj
      rw [e]
      have idem : ∀ vs : List Nat, L2.wipe (L2.wipe σ vs) vs = L2.wipe σ vs := fun vs => by
        have sub : ∀ (us : List Nat) (σ : L2.St), (∀ j ∈ us, j ∈ vs) → L2.wipe (L2.wipe σ us) vs = L2.wipe σ vs := fun us => by
          induction us with
          | nil => intro σ _; rfl
          | cons u us ih =>
            intro σ hs
            show L2.wipe ((L2.wipe σ us).set u none) vs = _
            rw [wipe_set (hs u (by simp))]
            exact ih σ fun j hj => hs j (by simp [hj])
        exact sub vs σ fun _ h => h
      exact idem _
    · refine ⟨F3, M2, ρ', _, noX, st3.sat, re2, hw3, fun b M4 hb4 F4 H4 st4 => ?_, px0⟩
      have nD3 : H3 D ≠ none := by rw [hD3]; simp
      have fD4 : F4 D = none := st4.newF D nD3 mD2 fD3
      have mD4 : M4 D = none := st4.newM D nD3 mD2
      have hD4 : H4 D = some (.lst accV) := st4.keep D _ hD3 mD2
      have stB := stA.trans st4
      cases b with
      | false => exact iteF ⟨F4, M4, accV, acc, stB, fD4, mD4, hD4, ra.mono (st3.ff.trans st4.ff), by omega, by simpa using hb4⟩
      | true =>
        refine iteT ⟨F4, M4, ρ', _, noX, st4.sat, re2.mono st4.ff, by simpa using hb4, fun y M5 hw5 F5 H5 yv st5 ry => ?_, px0⟩
        have nD4 : H4 D ≠ none := by rw [hD4]; simp
        have fD5 : F5 D = none := st5.newF D nD4 mD4 fD4
        have mD5 : M5 D = none := st5.newM D nD4 mD4
        have hD5 : H5 D = some (.lst accV) := st5.keep D _ hD4 mD4
        have ra5 := ra.mono ((st3.ff.trans st4.ff).trans st5.ff)
        refine ⟨accV, hD5, ?_, F5, M5, accV ++ [yv], acc ++ [y], (stB.trans st5).poke hD fD5 mD5, fD5, mD5, upd_same, ra5.append (.cons ry .nil), by rw [List.length_append]; show acc.length + 1 ≤ i + 1; omega, hw5⟩
        rw [ra.length, sizeLine_eq]; omega
  · have e : i = ds.length := by omega
    subst e
    rw [List.drop_length] at hw2
    refine .inl ⟨wk.stop H2 (st2.ff.trans st2.fh), ?_⟩
    have hw3 : (if m = true then ∀ p, M2 p = none → Q' (.ref p) (updM M2 p (.lst acc)) else Q' (.lst acc) M2) := hw2
    cases m with
    | true =>
      have hw4 : ∀ p, M2 p = none → Q' (.ref p) (updM M2 p (.lst acc)) := by simpa using hw3
      exact (pv.step st1) _ _ (hw4 D mD2) F2 H2 _ (st2.adoptM hD fD2 (mo := .lst acc) hD2 ⟨accV, rfl, ra⟩) (.ref D)
    | false =>
      have hw4 : Q' (.lst acc) M2 := by simpa using hw3
      exact (pv.step st1) _ _ hw4 _ H2 _ (st2.adopt hD fD2 mD2 hD2) (.lst (SqL.of upd_same) (ra.mono ((Ex.refl F2).new fD2)))

theorem PTs.weak {X : Cx} {es : List Expr} {t t' : TT} (h : PTs X es t) (i : ∀ σ H Q, t' σ H Q → t σ H Q) : PTs X es t' := ⟨fun pins s σ H Q I q => h.run pins s σ H Q I (i σ H Q q)⟩
theorem XO.blk {X : Cx} {Γ : List Fn} {W : WX} {c : SC} (h : XO X Γ W c) (scope : Scope) (s : Shared) (H : Hp) (C : Addr) (cl : List (Str × Addr)) (fp : List Addr) : XO (X.blk s H scope (compEnvC scope cl C X.env) fp) Γ W0 (c.blk scope) where
  hN := h.hN
  nd := h.nd
  sc := by show relS scope X.env.scope = relS scope c.sc; rw [h.sc]
  fn := fun x e => e
  calm := h.calm
  fns := h.fns
  bis := h.bis
  tk := takes0
  po := PassesOwn.never
  room := h.room
theorem xo_units {X : Cx} {Γ : List Fn} {W : WX} {c : SC} (h : XO X Γ W c) : X.A.units + 64 < cLine := let ⟨_, r, _⟩ := h.room; r.units
theorem and_tail {op : BoolOp} {y : Expr} {r : List Expr} {p : Pos} {X : Cx} {t : TE} (h : PE X (andTail op y r p) t) : PE X (.BoolOp op (y :: r) p) t := by
  cases r with
  | nil => exact pe_one h
  | cons z r => exact h
theorem and_tailT {y : Expr} {r : List Expr} {p : Pos} {X : Cx} {t : TT} (h : PT X (andTail .And y r p) t) : PW X (.BoolOp .And (y :: r) p) t := by
  cases r with
  | nil => exact pw_and1 h
  | cons z r => exact pw_bool h
theorem or_tailT {y : Expr} {r : List Expr} {p : Pos} {X : Cx} {t : TT} (h : PT X (andTail .Or y r p) t) : PW X (.BoolOp .Or (y :: r) p) t := by
  cases r with
  | nil => exact pw_or1 h
  | cons z r => exact pw_bool h
theorem fOp_none {op : Operator} (h : ∀ a b, binV op a b = none) {a b : D} {M : Mo} {Q : QE} : ¬ fOp (binV op) a b M Q := fun ⟨d, e, _⟩ => by rw [h a b] at e; cases e
end Vp
namespace Vp
open PySem PySem.Spec PyProof.Rows L2

theorem ne_of_isEmpty {α : Type} {ys : List α} (h : (!ys.isEmpty) = true) : ∃ y r, ys = y :: r := by
  cases ys with
  | nil => cases h
  | cons y r => exact ⟨y, r, rfl⟩
theorem mem_of {α : Type} {l : List α} {k : Nat} {x : α} (h : l[k]? = some x) : x ∈ l := List.mem_of_getElem? h
theorem fn_at {X : Cx} {Γ : List Fn} {W : WX} {c : SC} (h : XO X Γ W c) {k : Nat} {x : Str} (e : c.fns[k]? = some x) : ∃ g j, Γ[k]? = some g ∧ g.name = x ∧ Room j X.A ∧ FnIs X j g := by
  rw [h.fns, List.getElem?_map] at e
  cases e1 : Γ[k]? with
  | none => rw [e1] at e; cases e
  | some g =>
    rw [e1] at e
    obtain ⟨j, r, f⟩ := h.room
    exact ⟨g, j, rfl, Option.some.inj e, r, f g (mem_of e1)⟩
section
variable {Γ : List Fn}
mutual
theorem sE : ∀ (e : E) (c : SC) (X : Cx) (W : WX) (x : Expr), XO X Γ W c → isE c e x = true → PE X x (tE X.K W (vE Γ e))
  | .var i, c, X, W, x, hx, h => by
    unfold isE at h
    cases e : dName x with
    | none => simp only [e] at h; cases h
    | some n =>
      simp only [e] at h
      obtain ⟨p, rfl⟩ := dName_inv e
      obtain ⟨h1, g2⟩ := and2 h
      obtain ⟨h2, h3⟩ := and2 g2
      exact de_var (by rw [hx.hN]; exact of_decide_eq_true h1) (by rw [hx.sc]; exact visB_ok h2) h3
  | .cint i, c, X, W, x, hx, h => by
    unfold isE at h
    cases e : dConst x with
    | none => simp only [e] at h; cases h
    | some n =>
      simp only [e] at h
      obtain ⟨k, p, rfl⟩ := dConst_inv e
      obtain rfl := of_decide_eq_true h
      exact de_const pe_int fun _ _ => .int i
  | .cstr i, c, X, W, x, hx, h => by
    unfold isE at h
    cases e : dConst x with
    | none => simp only [e] at h; cases h
    | some n =>
      simp only [e] at h
      obtain ⟨k, p, rfl⟩ := dConst_inv e
      obtain rfl := of_decide_eq_true h
      exact de_const pe_str fun _ _ => .str i
  | .cbl i, c, X, W, x, hx, h => by
    unfold isE at h
    cases e : dConst x with
    | none => simp only [e] at h; cases h
    | some n =>
      simp only [e] at h
      obtain ⟨k, p, rfl⟩ := dConst_inv e
      obtain rfl := of_decide_eq_true h
      exact de_const pe_bl fun _ _ => .bl i
  | .cnon, c, X, W, x, hx, h => by
    unfold isE at h
    cases e : dConst x with
    | none => simp only [e] at h; cases h
    | some n =>
      simp only [e] at h
      obtain ⟨k, p, rfl⟩ := dConst_inv e
      obtain rfl := of_decide_eq_true h
      exact de_const pe_non fun _ _ => .non
  | .cty T, c, X, W, x, hx, h => by
    unfold isE at h
    cases e : dName x with
    | none => simp only [e] at h; cases h
    | some n =>
      simp only [e] at h
      obtain ⟨p, rfl⟩ := dName_inv e
      obtain ⟨h1, g2⟩ := and2 h
      obtain ⟨h2, g3⟩ := and2 g2
      obtain ⟨h3, h4⟩ := and2 g3
      exact de_const (pe_bltn (v := .ty T) (glB_ok (by rw [hx.sc]; exact h1)) (hx.bis n (of_decide_eq_true h2)) (tyOk_ok h4) rfl (okNm3 h3) (okNm1 h3)) fun _ _ => .ty T
  | .bin op a b, c, X, W, x, hx, h => by
    unfold isE at h
    cases e : dBin x with
    | none => simp only [e] at h; cases h
    | some n =>
      obtain ⟨u, o, v⟩ := n
      simp only [e] at h
      obtain ⟨p, rfl⟩ := dBin_inv e
      obtain ⟨h1, g2⟩ := and2 h
      obtain ⟨h2, g3⟩ := and2 g2
      obtain ⟨h3, h4⟩ := and2 g3
      obtain rfl := of_decide_eq_true h1
      obtain ⟨r, ho, hl⟩ := binop_ok (X := X) h2
      exact de_op ho hl (sE a c X W u hx h3) (sE b c X W v hx h4)
  | .neg a, c, X, W, x, hx, h => by
    unfold isE at h
    cases e : dUn x with
    | none => simp only [e] at h; cases h
    | some n =>
      obtain ⟨o, u⟩ := n
      simp only [e] at h
      obtain ⟨p, rfl⟩ := dUn_inv e
      obtain ⟨h1, h2⟩ := and2 h
      obtain rfl := of_decide_eq_true h1
      exact de_neg (sE a c X W u hx h2)
  | .cmp op a b, c, X, W, x, hx, h => by
    unfold isE at h
    split at h
    · rename_i u o v e
      obtain ⟨p, rfl⟩ := dCmp_inv e
      obtain ⟨h1, g2⟩ := and2 h
      obtain ⟨h2, g3⟩ := and2 g2
      obtain ⟨h3, g4⟩ := and2 g3
      obtain ⟨h4, h5⟩ := and2 g4
      obtain rfl := of_decide_eq_true h1
      obtain ⟨r, ho, hl⟩ := cmpop_ok (xo_units hx) h2
      exact de_cmp ho hl (noSet_behind h3) (sE a c X W u hx h4) (sE b c X W v hx h5)
    · cases h
  | .chain op op' a b d, c, X, W, x, hx, h => by
    unfold isE at h
    split at h
    · rename_i u o o' v z e
      obtain ⟨p, rfl⟩ := dCmp_inv e
      obtain ⟨h1, g2⟩ := and2 h
      obtain ⟨h2, g3⟩ := and2 g2
      obtain ⟨h3, g4⟩ := and2 g3
      obtain ⟨h4, g5⟩ := and2 g4
      obtain ⟨h5, g6⟩ := and2 g5
      obtain ⟨h6, g7⟩ := and2 g6
      obtain ⟨h7, g8⟩ := and2 g7
      obtain ⟨h8, h9⟩ := and2 g8
      obtain rfl := of_decide_eq_true h1
      obtain rfl := of_decide_eq_true h2
      obtain ⟨r, ho, hl⟩ := cmpop_ok (xo_units hx) h3
      obtain ⟨r', ho', hl'⟩ := cmpop_ok (xo_units hx) h4
      exact de_chain ho hl ho' hl' (noSet_behind h6) (sE a c X W u hx h7) (sE b c X W v hx h8) (sE d c X W z hx h9)
    · cases h
  | .and a b, c, X, W, x, hx, h => by
    unfold isE at h
    cases e : dBool x with
    | none => simp only [e] at h; cases h
    | some n =>
      obtain ⟨o, u, v⟩ := n
      simp only [e] at h
      obtain ⟨y, r, p, rfl, rfl⟩ := dBool_inv e
      obtain ⟨h1, g2⟩ := and2 h
      obtain ⟨h2, h3⟩ := and2 g2
      obtain rfl := of_decide_eq_true h1
      exact de_and (sE a c X W u hx h2) (and_tail (sE b c X W _ hx h3))
  | .or a b, c, X, W, x, hx, h => by
    unfold isE at h
    cases e : dBool x with
    | none => simp only [e] at h; cases h
    | some n =>
      obtain ⟨o, u, v⟩ := n
      simp only [e] at h
      obtain ⟨y, r, p, rfl, rfl⟩ := dBool_inv e
      obtain ⟨h1, g2⟩ := and2 h
      obtain ⟨h2, h3⟩ := and2 g2
      obtain rfl := of_decide_eq_true h1
      exact de_or (sE a c X W u hx h2) (and_tail (sE b c X W _ hx h3))
  | .not a, c, X, W, x, hx, h => by
    unfold isE at h
    cases e : dUn x with
    | none => simp only [e] at h; cases h
    | some n =>
      obtain ⟨o, u⟩ := n
      simp only [e] at h
      obtain ⟨p, rfl⟩ := dUn_inv e
      obtain ⟨h1, h2⟩ := and2 h
      obtain rfl := of_decide_eq_true h1
      exact de_not (sE a c X W u hx h2)
  | .ite t a b, c, X, W, x, hx, h => by
    unfold isE at h
    cases e : dIf x with
    | none => simp only [e] at h; cases h
    | some n =>
      obtain ⟨o, u, v⟩ := n
      simp only [e] at h
      obtain ⟨p, rfl⟩ := dIf_inv e
      obtain ⟨h1, g2⟩ := and2 h
      obtain ⟨h2, h3⟩ := and2 g2
      exact de_ite (sT t c X W o hx h1) (sE a c X W u hx h2) (sE b c X W v hx h3)
  | .tup es, c, X, W, x, hx, h => by
    unfold isE at h
    cases e : dTup x with
    | none => simp only [e] at h; cases h
    | some xs =>
      simp only [e] at h
      obtain ⟨k, p, rfl⟩ := dTup_inv e
      exact de_tup (sEs es c X W xs hx h).1
  | .lst m es, c, X, W, x, hx, h => by
    unfold isE at h
    cases e : dLst x with
    | none => simp only [e] at h; cases h
    | some xs =>
      simp only [e] at h
      obtain ⟨p, rfl⟩ := dLst_inv e
      exact de_lst (sEs es c X W xs hx h).1
  | .call k es, c, X, W, x, hx, h => by
    unfold isE at h
    cases e : dCall x with
    | none => simp only [e] at h; cases h
    | some n =>
      obtain ⟨n, ys⟩ := n
      simp only [e] at h
      obtain ⟨q, p, rfl⟩ := dCall_inv e
      obtain ⟨h1, g2⟩ := and2 h
      obtain ⟨h2, g3⟩ := and2 g2
      obtain ⟨h3, g4⟩ := and2 g3
      obtain ⟨h4, h5⟩ := and2 g4
      obtain ⟨y, r, rfl⟩ := ne_of_isEmpty h4
      obtain ⟨g, j, e1, e2, hr, hf⟩ := fn_at hx (of_decide_eq_true h1)
      obtain ⟨pa, st⟩ := sEs es c X W (y :: r) hx h5
      refine PE.weak (de_call hr hf hx.tk e2 (glB_ok (by rw [hx.sc]; exact h2)) h3 pa st) fun σ H Q h => ?_
      obtain ⟨F, M, ρ, Q', X', s, re, h, pv, px⟩ := h
      refine ⟨F, M, ρ, Q', X', s, re, ?_, pv, px⟩
      have h : vEs Γ es ρ M (fun ds M1 => ∃ g, Γ[k]? = some g ∧ ds.length = g.n ∧ g.con ds M1 Q' X') X' := h
      have : (fun ds M1 => ∃ g, Γ[k]? = some g ∧ ds.length = g.n ∧ g.con ds M1 Q' X') = (fun ds M1 => ds.length = g.n ∧ g.con ds M1 Q' X') := by
        funext ds M1
        rw [e1]
        simp
      rw [this] at h
      exact h
  | .bi b es, c, X, W, x, hx, h => by
    unfold isE at h
    cases e : dCall x with
    | none => simp only [e] at h; cases h
    | some n =>
      obtain ⟨n, ys⟩ := n
      simp only [e] at h
      obtain ⟨q, p, rfl⟩ := dCall_inv e
      obtain ⟨h1, g2⟩ := and2 h
      obtain ⟨h2, g3⟩ := and2 g2
      obtain ⟨h3, g4⟩ := and2 g3
      obtain ⟨h4, g5⟩ := and2 g4
      obtain ⟨h5, g6⟩ := and2 g5
      obtain ⟨h6, h7⟩ := and2 g6
      obtain ⟨y, r, rfl⟩ := ne_of_isEmpty h6
      obtain ⟨pa, st⟩ := sEs es c X W (y :: r) hx h7
      exact de_bi (hx.calm h2) (of_decide_eq_true h1) (glB_ok (by rw [hx.sc]; exact h4)) (hx.bis n (of_decide_eq_true h3)) h5 pa st
  | .ix a b, c, X, W, x, hx, h => by
    unfold isE at h
    cases e : dSub x with
    | none => simp only [e] at h; cases h
    | some n =>
      obtain ⟨u, v⟩ := n
      simp only [e] at h
      obtain ⟨p, rfl⟩ := dSub_inv e
      obtain ⟨h1, g2⟩ := and2 h
      obtain ⟨h2, h3⟩ := and2 g2
      exact de_ix (plainI_ok h1) (sE a c X W u hx h2) (sE b c X W v hx h3)
  | .comp m elt tg it cond, c, X, W, x, hx, h => by
    unfold isE at h
    cases e : dComp x with
    | none => simp only [e] at h; cases h
    | some n =>
      obtain ⟨u, t, i, ifs, scope⟩ := n
      simp only [e] at h
      obtain ⟨p, rfl⟩ := dComp_inv e
      obtain ⟨h1, g2⟩ := and2 h
      obtain ⟨h2, g3⟩ := and2 g2
      obtain ⟨h3, g4⟩ := and2 g3
      obtain ⟨h4, g5⟩ := and2 g4
      obtain ⟨h5, g6⟩ := and2 g5
      obtain ⟨h6, g7⟩ := and2 g6
      obtain ⟨h7, h8⟩ := and2 g7
      have nd : X.N.Nodup := by rw [hx.hN]; exact hx.nd
      have ok : BlkOk X.N X.env.scope scope (ownOf c.N (slotsT tg)) := by rw [hx.hN, hx.sc]; exact blkOk_by h4
      have pi := sI it c X W t i hx h3
      have hg : ∀ (s : Shared) (H : Hp) (C : Addr) (cl : List (Str × Addr)) (fp : List Addr), PG (X.blk s H scope (compEnvC scope cl C X.env) fp) t (tG X.K tg) := fun s H C cl fp =>
        let y := hx.blk scope s H C cl fp
        sTg y.hN y.nd y.sc y.fn y.calm tg t h6
      have ht : ∀ (s : Shared) (H : Hp) (C : Addr) (cl : List (Str × Addr)) (fp : List Addr), PTs (X.blk s H scope (compEnvC scope cl C X.env) fp) ifs (tT X.K W0 (vTo Γ cond)) := fun s H C cl fp =>
        sTo cond (c.blk scope) _ W0 ifs (hx.blk scope s H C cl fp) h7
      have he : ∀ (s : Shared) (H : Hp) (C : Addr) (cl : List (Str × Addr)) (fp : List Addr), PE (X.blk s H scope (compEnvC scope cl C X.env) fp) u (tE X.K W0 (vE Γ elt)) := fun s H C cl fp =>
        sE elt (c.blk scope) _ W0 u (hx.blk scope s H C cl fp) h8
      exact PE.weak (pe_lc (hx.calm h1) nd pi ok hg ht he (noSet_fold h2)) (de_comp (pos := p) (hx.calm h1) nd pi ok (of_decide_eq_true h5) hg ht he)
theorem sEs : ∀ (es : Es) (c : SC) (X : Cx) (W : WX) (xs : List Expr), XO X Γ W c → isEs c es xs = true → PA X xs (tL X.K W (vEs Γ es)) ∧ xs.all noStar = true
  | .nil, c, X, W, [], hx, h => ⟨da_nil, rfl⟩
  | .nil, c, X, W, _ :: _, hx, h => by unfold isEs at h; cases h
  | .cons e r, c, X, W, [], hx, h => by unfold isEs at h; cases h
  | .cons e r, c, X, W, x :: xs, hx, h => by
    unfold isEs at h
    obtain ⟨h1, g2⟩ := and2 h
    obtain ⟨h2, h3⟩ := and2 g2
    obtain ⟨pa, st⟩ := sEs r c X W xs hx h3
    exact ⟨da_cons h1 (sE e c X W x hx h2) pa, by rw [List.all_cons, h1, st]; rfl⟩
theorem sT : ∀ (t : T) (c : SC) (X : Cx) (W : WX) (x : Expr), XO X Γ W c → isT c t x = true → PT X x (tT X.K W (vT Γ t))
  | .tr e, c, X, W, x, hx, h => by
    unfold isT at h
    obtain ⟨h1, h2⟩ := and2 h
    exact dt_tr h1 (sE e c X W x hx h2)
  | .cmp op a b, c, X, W, x, hx, h => by
    unfold isT at h
    split at h
    · rename_i u o v e
      obtain ⟨p, rfl⟩ := dCmp_inv e
      obtain ⟨h1, g2⟩ := and2 h
      obtain ⟨h2, g3⟩ := and2 g2
      obtain ⟨h3, g4⟩ := and2 g3
      obtain ⟨h4, h5⟩ := and2 g4
      obtain rfl := of_decide_eq_true h1
      obtain ⟨r, ho, hl⟩ := cmpop_ok (xo_units hx) h2
      exact dt_cmp ho hl (noSet_behind h3) (sE a c X W u hx h4) (sE b c X W v hx h5)
    · cases h
  | .chain op op' a b d, c, X, W, x, hx, h => by
    unfold isT at h
    split at h
    · rename_i u o o' v z e
      obtain ⟨p, rfl⟩ := dCmp_inv e
      obtain ⟨h1, g2⟩ := and2 h
      obtain ⟨h2, g3⟩ := and2 g2
      obtain ⟨h3, g4⟩ := and2 g3
      obtain ⟨h4, g5⟩ := and2 g4
      obtain ⟨h5, g6⟩ := and2 g5
      obtain ⟨h6, g7⟩ := and2 g6
      obtain ⟨h7, g8⟩ := and2 g7
      obtain ⟨h8, h9⟩ := and2 g8
      obtain rfl := of_decide_eq_true h1
      obtain rfl := of_decide_eq_true h2
      obtain ⟨r, ho, hl⟩ := cmpop_ok (xo_units hx) h3
      obtain ⟨r', ho', hl'⟩ := cmpop_ok (xo_units hx) h4
      exact dt_chain ho hl ho' hl' (noSet_behind h6) (sE a c X W u hx h7) (sE b c X W v hx h8) (sE d c X W z hx h9)
    · cases h
  | .and a b, c, X, W, x, hx, h => by
    unfold isT at h
    cases e : dBool x with
    | none => simp only [e] at h; cases h
    | some n =>
      obtain ⟨o, u, v⟩ := n
      simp only [e] at h
      obtain ⟨y, r, p, rfl, rfl⟩ := dBool_inv e
      obtain ⟨h1, g2⟩ := and2 h
      obtain ⟨h2, h3⟩ := and2 g2
      obtain rfl := of_decide_eq_true h1
      exact dt_and (sT a c X W u hx h2) (and_tailT (sT b c X W _ hx h3))
  | .or a b, c, X, W, x, hx, h => by
    unfold isT at h
    cases e : dBool x with
    | none => simp only [e] at h; cases h
    | some n =>
      obtain ⟨o, u, v⟩ := n
      simp only [e] at h
      obtain ⟨y, r, p, rfl, rfl⟩ := dBool_inv e
      obtain ⟨h1, g2⟩ := and2 h
      obtain ⟨h2, h3⟩ := and2 g2
      obtain rfl := of_decide_eq_true h1
      exact dt_or (sT a c X W u hx h2) (or_tailT (sT b c X W _ hx h3))
  | .not a, c, X, W, x, hx, h => by
    unfold isT at h
    cases e : dUn x with
    | none => simp only [e] at h; cases h
    | some n =>
      obtain ⟨o, u⟩ := n
      simp only [e] at h
      obtain ⟨p, rfl⟩ := dUn_inv e
      obtain ⟨h1, h2⟩ := and2 h
      obtain rfl := of_decide_eq_true h1
      exact dt_not (sT a c X W u hx h2)
theorem sTo : ∀ (t : To) (c : SC) (X : Cx) (W : WX) (xs : List Expr), XO X Γ W c → isTo c t xs = true → PTs X xs (tT X.K W (vTo Γ t))
  | .none, c, X, W, [], hx, h => PTs.weak pts_nil fun σ H Q h => by
    obtain ⟨F, M, ρ, Q', X', s, r, h, pb, px⟩ := h
    exact pb _ _ h F H (Step.refl s)
  | .none, c, X, W, _ :: _, hx, h => by unfold isTo at h; cases h
  | .some t, c, X, W, [x], hx, h => by
    unfold isTo at h
    exact pts_one (sT t c X W x hx h)
  | .some t, c, X, W, [], hx, h => by unfold isTo at h; cases h
  | .some t, c, X, W, _ :: _ :: _, hx, h => by unfold isTo at h; cases h
theorem sI : ∀ (it : I) (c : SC) (X : Cx) (W : WX) (tg x : Expr), XO X Γ W c → isI c it tg x = true → PI X tg x (tI X.K W (vI Γ it))
  | .seq e, c, X, W, tg, x, hx, h => by
    unfold isI at h
    exact di_seq (sE e c X W x hx h)
  | .range1 e, c, X, W, tg, x, hx, h => by
    unfold isI at h
    split at h
    · rename_i n y e1
      obtain ⟨q, p, rfl⟩ := dCall_inv e1
      obtain ⟨h1, g2⟩ := and2 h
      obtain ⟨h2, g3⟩ := and2 g2
      obtain ⟨h3, g4⟩ := and2 g3
      obtain ⟨h4, h5⟩ := and2 g4
      obtain rfl := of_decide_eq_true h1
      exact di_range1 (glB_ok (by rw [hx.sc]; exact h3)) (hx.bis _ (of_decide_eq_true h2)) h4 (sE e c X W y hx h5)
    · cases h
  | .range2 a b, c, X, W, tg, x, hx, h => by
    unfold isI at h
    split at h
    · rename_i n y z e1
      obtain ⟨q, p, rfl⟩ := dCall_inv e1
      obtain ⟨h1, g2⟩ := and2 h
      obtain ⟨h2, g3⟩ := and2 g2
      obtain ⟨h3, g4⟩ := and2 g3
      obtain ⟨h4, g5⟩ := and2 g4
      obtain ⟨h5, g6⟩ := and2 g5
      obtain ⟨h6, h7⟩ := and2 g6
      obtain rfl := of_decide_eq_true h1
      exact di_range2 (glB_ok (by rw [hx.sc]; exact h3)) (hx.bis _ (of_decide_eq_true h2)) h4 h5 (sE a c X W y hx h6) (sE b c X W z hx h7)
    · cases h
  | .zip a b, c, X, W, tg, x, hx, h => by
    unfold isI at h
    split at h
    · rename_i n y z e1
      obtain ⟨q, p, rfl⟩ := dCall_inv e1
      obtain ⟨h0, g1⟩ := and2 h
      obtain ⟨h1, g2⟩ := and2 g1
      obtain ⟨h2, g3⟩ := and2 g2
      obtain ⟨h3, g4⟩ := and2 g3
      obtain ⟨h4, g5⟩ := and2 g4
      obtain ⟨h5, g6⟩ := and2 g5
      obtain ⟨h6, h7⟩ := and2 g6
      obtain rfl := of_decide_eq_true h1
      obtain ⟨ts, et⟩ := Option.isSome_iff_exists.mp h0
      obtain ⟨k, tp, rfl⟩ := dTup_inv et
      exact di_zip (glB_ok (by rw [hx.sc]; exact h3)) (hx.bis _ (of_decide_eq_true h2)) h4 h5 (sE a c X W y hx h6) (sE b c X W z hx h7)
    · cases h
  | .enum e, c, X, W, tg, x, hx, h => by
    unfold isI at h
    split at h
    · rename_i n y e1
      obtain ⟨q, p, rfl⟩ := dCall_inv e1
      obtain ⟨h0, g1⟩ := and2 h
      obtain ⟨h1, g2⟩ := and2 g1
      obtain ⟨h2, g3⟩ := and2 g2
      obtain ⟨h3, g4⟩ := and2 g3
      obtain ⟨h4, h5⟩ := and2 g4
      obtain rfl := of_decide_eq_true h1
      obtain ⟨ts, et⟩ := Option.isSome_iff_exists.mp h0
      obtain ⟨k, tp, rfl⟩ := dTup_inv et
      exact di_enum (glB_ok (by rw [hx.sc]; exact h3)) (hx.bis _ (of_decide_eq_true h2)) h4 (sE e c X W y hx h5)
    · cases h
end
end
end Vp
namespace Vp
open PySem PySem.Spec PyProof.Rows L2

def NxP (K : PySem.W.Frag) (F : Hp) (M : Mo) (H : Hp) (R : L2.St → Hp → Prop) (R' : Rho → Mo → Prop) : Prop := ∀ ρ' M', R' ρ' M' → ∀ F' H' σ', Step K F M H F' M' H' → RepE K F' σ' ρ' → R σ' H'
def ExP (K : PySem.W.Frag) (F : Hp) (M : Mo) (H : Hp) (W : WX) (R' : Value → List (Str × D) → Rho → Mo → Prop) : Prop := ∀ c fs ρ' M', R' c fs ρ' M' → ∀ F' H' σ' d, Step K F M H F' M' H' → RepE K F' σ' ρ' → RepX K F' H' d fs → W c d σ' H'
structure EndP (K : PySem.W.Frag) (F : Hp) (M : Mo) (H : Hp) (W : WX) (D : Ends) (Kd : EndsD) : Prop where
  nx : NxP K F M H D.nx Kd.nx
  rt : PV K F M H D.rt Kd.rt
  bk : NxP K F M H D.bk Kd.bk
  ct : NxP K F M H D.ct Kd.ct
  ex : ExP K F M H W Kd.ex
section
variable {K : PySem.W.Frag} {F F1 H H1 : Hp} {M M1 : Mo} {W : WX} {D : Ends} {Kd : EndsD}
theorem NxP.step {R : L2.St → Hp → Prop} {R' : Rho → Mo → Prop} (s : Step K F M H F1 M1 H1) (p : NxP K F M H R R') : NxP K F1 M1 H1 R R' := fun ρ' M' h F' H' σ' t r => p ρ' M' h F' H' σ' (s.trans t) r
theorem EndP.step (s : Step K F M H F1 M1 H1) (p : EndP K F M H W D Kd) : EndP K F1 M1 H1 W D Kd :=
  ⟨p.nx.step s, p.rt.step s, p.bk.step s, p.ct.step s, fun c fs ρ' M' h F' H' σ' d t r x => p.ex c fs ρ' M' h F' H' σ' d (s.trans t) r x⟩
theorem EndP.px (p : EndP K F M H W D Kd) {σ : L2.St} {ρ : Rho} (r : RepE K F σ ρ) : PX K F M H W σ (fun c fs M1 => Kd.ex c fs ρ M1) := fun c fs M' h F' H' d t x => p.ex c fs ρ M' h F' H' σ d t (r.mono t.ff) x
end
abbrev WS := EndsD → Rho → Mo → Prop
def tS (K : PySem.W.Frag) (W : WX) (w : WS) : TS := fun D σ H => ∃ F M ρ Kd, Sat K F H M ∧ RepE K F σ ρ ∧ w Kd ρ M ∧ EndP K F M H W D Kd
section
variable {X : Cx} {W : WX} {we wo wi' : VE} {wt : WT} {wl : WL} {w1 w2 : WS} {pos : Pos}
theorem ds_asg {t e : Expr} {tg : Tg} (hn : noCut e = true) (hp : parOk t e = true) (hs : noStar t = true) (he : PE X e (tE X.K W we)) (hg : PG X t (tG X.K tg)) :
    PS X (.Assign [t] e pos) (tS X.K W fun K ρ M => we ρ M (fun d M1 => ∃ ρ', bindT tg d ρ = some ρ' ∧ K.nx ρ' M1) (fun c fs M1 => K.ex c fs ρ M1)) := by
  refine PS.weak (ps_asg he hg (noCut_swaps hn) ?_ (by rw [asg_cons hs]; rfl)) fun D σ H h => ?_
  · cases t <;> first
      | rfl
      | (cases e <;> first | rfl | cases hp)
  · obtain ⟨F, M, ρ, Kd, s, re, h, ep⟩ := h
    refine ⟨F, M, ρ, _, _, s, re, h, fun d M1 ⟨ρ', hb, q⟩ F1 H1 v st r => ?_, ep.px re⟩
    exact ⟨F1, d, ρ, ρ', st.fh, r, re.mono st.ff, hb, fun σ' r' _ => ep.nx ρ' M1 q F1 H1 σ' st r'⟩
theorem ds_setC {i : Nat} {s : Stmt} {t : TE} (h : PS X s (tAsg t (gName i))) (hw : ∀ σ H Q, tE X.K W we σ H Q → t σ H Q) :
    PS X s (tS X.K W fun K ρ M => we ρ M (fun d M1 => K.nx (ρ.set i (some d)) M1) (fun c fs M1 => K.ex c fs ρ M1)) := by
  refine PS.weak h fun D σ H h => ?_
  obtain ⟨F, M, ρ, Kd, s, re, h, ep⟩ := h
  refine hw σ H _ ⟨F, M, ρ, _, _, s, re, h, fun d M1 q F1 H1 v st r => ?_, ep.px re⟩
  exact ep.nx _ M1 q F1 H1 _ st ((re.mono st.ff).set r)
theorem aug_ok {op : Operator} (h : supA op = true) : ∃ r : R2, OpR X (inplaceOp op) r ∧ OpL X.K r (fun a b M Q => ∃ z, augV op a b = some z ∧ Q z M) := by
  cases op with
  | Add =>
    refine ⟨_, iop_add.or iop_add_str, fun x y d1 d2 F H M Q Q' s rx ry h p => ?_⟩
    obtain ⟨d, e, q⟩ := h
    cases rx with
    | int i =>
      cases ry with
      | int j => cases e; exact .inl ⟨i, j, rfl, rfl, p.here s q (.int _)⟩
      | _ => cases e
    | str i =>
      cases ry with
      | str j =>
        simp only [augV] at e
        split at e
        · rename_i hz
          cases e
          exact .inr ⟨i, j, rfl, rfl, szl hz, p.here s q (.str _)⟩
        · cases e
      | _ => cases e
    | _ => cases e
  | Sub =>
    refine ⟨_, iop_sub, fun x y d1 d2 F H M Q Q' s rx ry h p => ?_⟩
    obtain ⟨d, e, q⟩ := h
    cases rx <;> first | (cases e; done) | skip
    cases ry <;> first | (cases e; done) | skip
    cases e
    exact ⟨_, _, rfl, rfl, p.here s q (.int _)⟩
  | Mult =>
    refine ⟨_, iop_mul, fun x y d1 d2 F H M Q Q' s rx ry h p => ?_⟩
    obtain ⟨d, e, q⟩ := h
    cases rx <;> first | (cases e; done) | skip
    cases ry <;> first | (cases e; done) | skip
    simp only [augV] at e
    split at e
    · rename_i hz
      cases e
      exact ⟨_, _, rfl, rfl, hz, p.here s q (.int _)⟩
    · cases e
  | _ => cases h
theorem ds_aug {i : Nat} {x : Str} {e : Expr} {op : Operator} {q : Pos} (hop : supA op = true) (hN : X.N.Nodup) (hi : X.N[i]? = some x) (hx : Loc X.env.scope x) (hf : X.fn x = true ∨ X.env.scope.names.lookup x = some .local) (he : PE X e (tE X.K W we)) :
    PS X (.AugAssign (.Name x q) op e pos) (tS X.K W fun K ρ M => ∃ x, ρ[i]? = some (some x) ∧ we ρ M (fun y M1 => ∃ z, augV op x y = some z ∧ K.nx (ρ.set i (some z)) M1) (fun c fs M1 => K.ex c fs ρ M1)) := by
  obtain ⟨r, ho, hl⟩ := aug_ok (X := X) hop
  refine PS.weak (ps_aug (ti := r) hN hi hx he ho hf) fun D σ H h => ?_
  obtain ⟨F, M, ρ, Kd, s, re, ⟨d, e1, h⟩, ep⟩ := h
  obtain ⟨v, e2, rv⟩ := re.get i d e1
  refine ⟨v, e2, F, M, ρ, _, _, s, re, h, fun y M1 q F1 H1 u st ru => ?_, ep.px re⟩
  exact hl v u d y F1 H1 M1 _ (fun z M' => Kd.nx (ρ.set i (some z)) M') st.sat (rv.mono st.ff) ru q fun z M' q F' H' v st' rz => ep.nx _ M' q F' H' _ (st.trans st') ((re.mono (st.ff.trans st'.ff)).set rz)
theorem ds_ret {e : Expr} (he : PE X e (tE X.K W we)) : PS X (.Return (some e) pos) (tS X.K W fun K ρ M => we ρ M K.rt (fun c fs M1 => K.ex c fs ρ M1)) := by
  refine PS.weak (ps_ret he) fun D σ H h => ?_
  obtain ⟨F, M, ρ, Kd, s, re, h, ep⟩ := h
  exact ⟨F, M, ρ, _, _, s, re, h, ep.rt, ep.px re⟩
theorem ds_retN : PS X (.Return none pos) (tS X.K W fun K _ M => K.rt .non M) := by
  refine PS.weak ps_retN fun D σ H h => ?_
  obtain ⟨F, M, ρ, Kd, s, re, h, ep⟩ := h
  exact ep.rt _ _ h F H _ (Step.refl s) .non
theorem ds_if {c : Expr} {a b : List Stmt} (hc : PT X c (tT X.K W wt)) (ha : PSs X a (tS X.K W w1)) (hb : PSs X b (tS X.K W w2)) :
    PS X (.If c a b pos) (tS X.K W fun K ρ M => wt ρ M (fun k M1 => if k = true then w1 K ρ M1 else w2 K ρ M1) (fun c fs M1 => K.ex c fs ρ M1)) := by
  refine PS.weak (ps_if hc ha hb) fun D σ H h => ?_
  obtain ⟨F, M, ρ, Kd, s, re, h, ep⟩ := h
  refine ⟨F, M, ρ, _, _, s, re, h, fun k M1 q F1 H1 st => ?_, ep.px re⟩
  cases k with
  | true => exact iteT ⟨F1, M1, ρ, Kd, st.sat, re.mono st.ff, by simpa using q, ep.step st⟩
  | false => exact iteF ⟨F1, M1, ρ, Kd, st.sat, re.mono st.ff, by simpa using q, ep.step st⟩
theorem ds_expr {e : Expr} (hn : noCut e = true) (he : PE X e (tE X.K W we)) : PS X (.Expr e pos) (tS X.K W fun K ρ M => we ρ M (fun _ M1 => K.nx ρ M1) (fun c fs M1 => K.ex c fs ρ M1)) := by
  refine PS.weak (ps_expr he (noCut_swaps hn)) fun D σ H h => ?_
  obtain ⟨F, M, ρ, Kd, s, re, h, ep⟩ := h
  exact ⟨F, M, ρ, _, _, s, re, h, fun d M1 q F1 H1 v st _ => ep.nx ρ M1 q F1 H1 σ st (re.mono st.ff), ep.px re⟩
theorem ds_app {o e : Expr} {ap cp : Pos} (ha : attrOk o = true) (hs : noStar e = true) (hl : (ap.endLine == cp.line) = true) (ho : PE X o (tE X.K W wo)) (he : PE X e (tE X.K W we)) :
    PS X (.Expr (.Call (.Attribute o "append" ap) [e] [] cp) pos) (tS X.K W fun K ρ M => wo ρ M (fun x M1 => ∃ p xs, x = .ref p ∧ M1 p = some (.lst xs) ∧ we ρ M1 (fun y M2 => ∃ ys, M2 p = some (.lst ys) ∧ ys.length < 16777216 ∧ K.nx ρ (updM M2 p (.lst (ys ++ [y])))) (fun c fs M2 => K.ex c fs ρ M2)) (fun c fs M1 => K.ex c fs ρ M1)) := by
  refine PS.weak (ps_expr (pe_bm PySem.F.plainAttrs_list PySem.F.slot_list_append PySem.F.type_list_append mt_append ho (pa_cons he pa_nil (star_cons hs)) (attrOk_ok ha) (by rw [star_cons hs]; rfl) hl (star_cons hs) rfl) rfl) fun D σ H h => ?_
  obtain ⟨F, M, ρ, Kd, s, re, h, ep⟩ := h
  refine ⟨F, M, ρ, _, _, s, re, h, fun x M1 ⟨p, xs, e1, e2, h2⟩ F1 H1 v st rv => ?_, ep.px re⟩
  subst e1
  cases rv
  obtain ⟨_, ho, hp, us, e3, r3⟩ := st.m p _ e2
  subst e3
  refine ⟨.inl ⟨rfl, us, .inl (.inl hp)⟩, F1, M1, ρ, _, _, st.sat, re.mono st.ff, h2, fun y M2 ⟨ys, e4, hz, q⟩ F2 H2 u st2 ru => ?_, (ep.step st).px (re.mono st.ff)⟩
  obtain ⟨_, ho2, hp2, ws, e5, r5⟩ := st2.m p _ e4
  subst e5
  refine ⟨p, ws, u, rfl, rfl, hp2, by rw [r5.length, sizeLine_eq]; exact hz, ?_⟩
  exact ep.nx _ _ q F2 _ σ ((st.trans st2).trans (st2.sat.write e4 (o := .lst (ws ++ [u])) ⟨_, rfl, r5.append (.cons ru .nil)⟩)) (re.mono (st.ff.trans st2.ff))
theorem ds_setIx {o i e : Expr} {p : Pos} (hn : noCut e = true) (hpi : plainI i = true) (he : PE X e (tE X.K W we)) (ho : PE X o (tE X.K W wo)) (hi : PE X i (tE X.K W wi')) :
    PS X (.Assign [.Subscript o i p] e pos) (tS X.K W fun K ρ M => we ρ M (fun d M1 => wo ρ M1 (fun x M2 => wi' ρ M2 (fun k M3 => ∃ p ds n j, x = .ref p ∧ k = .int n ∧ M3 p = some (.lst ds) ∧ ixN ds.length n = some j ∧ K.nx ρ (updM M3 p (.lst (ds.set j d)))) (fun c fs M2 => K.ex c fs ρ M2)) (fun c fs M2 => K.ex c fs ρ M2)) (fun c fs M1 => K.ex c fs ρ M1)) := by
  refine PS.weak (ps_asg he (pg_sub ho hi set_list (by intro v; cases i <;> first | rfl | cases hpi)) (show swapsWith e (some (.Subscript o i p)) pos.line X.env = pure false from noCut_swaps hn) (by cases e <;> rfl) rfl) fun D σ H h => ?_
  obtain ⟨F, M, ρ, Kd, s, re, h, ep⟩ := h
  refine ⟨F, M, ρ, _, _, s, re, h, fun d M1 h1 F1 H1 v st1 r1 => ?_, ep.px re⟩
  refine ⟨F1, M1, ρ, _, _, st1.sat, re.mono st1.ff, h1, fun x M2 h2 F2 H2 u st2 r2 => ?_, (ep.step st1).px (re.mono st1.ff)⟩
  refine ⟨F2, M2, ρ, _, _, st2.sat, re.mono (st1.ff.trans st2.ff), h2, fun k M3 ⟨a, ds, n, j, e1, e2, e3, e4, q⟩ F3 H3 w st3 r3 => ?_, (ep.step (st1.trans st2)).px (re.mono (st1.ff.trans st2.ff))⟩
  subst e1 e2
  cases r3
  cases r2
  obtain ⟨_, ho, hp, us, e5, r5⟩ := st3.m a _ e3
  subst e5
  refine ⟨a, us, n, j, rfl, rfl, hp, by rw [r5.length]; exact e4, ?_⟩
  have st := (st1.trans st2).trans st3
  exact ep.nx _ _ q F3 _ σ (st.trans (st3.sat.write e3 (o := .lst (us.set j v)) ⟨_, rfl, r5.set j (r1.mono (st2.ff.trans st3.ff))⟩)) (re.mono st.ff)
theorem ds_for {t iter : Expr} {body : List Stmt} {tg : Tg} (hns : noSet iter = true) (hp : PassesOwn (model X.prog X.w) X.A X.env X.xe) (hc : X.calm = true) (hi : PI X t iter (tI X.K W wl)) (hg : PG X t (tG X.K tg)) (hb : PSs X body (tS X.K W w1)) :
    PS X (.For t iter body [] pos) (tS X.K W fun K ρ M => wl ρ M (fun ds M1 => vFor w1 tg K ds ρ M1) (fun c fs M1 => K.ex c fs ρ M1)) := by
  refine PS.weak (ps_for hp hc hi hg hb (noSet_fold hns)) fun D σ H h => ?_
  obtain ⟨F, M, ρ, Kd, s, re, h, ep⟩ := h
  refine ⟨F, M, ρ, _, _, s, re, h, fun ds M1 hw F1 H1 J st1 wk => ?_, ep.px re⟩
  refine ⟨fun i m σ2 H2 => m = ds.length - i ∧ i ≤ ds.length ∧ ∃ F2 M2 ρ2, Step X.K F1 M1 H1 F2 M2 H2 ∧ RepE X.K F2 σ2 ρ2 ∧ vFor w1 tg Kd (ds.drop i) ρ2 M2,
    ⟨ds.length, by simp, Nat.zero_le _, F1, M1, ρ, Step.refl st1.sat, re.mono st1.ff, hw⟩, ?_⟩
  rintro i m σ2 H2 ⟨rfl, hi2, F2, M2, ρ2, st2, re2, hw2⟩
  by_cases hlt : i < ds.length
  · refine .inr ⟨wk.go i H2 (st2.ff.trans st2.fh) hlt, fun σ' H' => ∃ F2 M2 ρ2, Step X.K F1 M1 H1 F2 M2 H' ∧ RepE X.K F2 σ' ρ2 ∧ vFor w1 tg Kd (ds.drop (i + 1)) ρ2 M2, fun σ' H' n => ⟨ds.length - (i + 1), by omega, rfl, hlt, n⟩, fun x H3 y => ?_⟩
    obtain ⟨F3, st3, rx⟩ := wk.yld i ds[i] H2 x H3 F2 M2 st2.ff st2.sat (List.getElem?_eq_getElem hlt) y
    rw [List.drop_eq_getElem_cons hlt] at hw2
    obtain ⟨ρ3, hb3, hw3⟩ := hw2
    have stA := st2.trans st3
    refine ⟨F3, ds[i], ρ2, ρ3, st3.fh, rx, re2.mono st3.ff, hb3, fun σ3 re3 _ => ?_⟩
    have stB := st1.trans stA
    refine ⟨F3, M2, ρ3, _, st3.sat, re3, hw3, fun ρ' M' q F' H' σ' st r => ?_, (ep.step stB).rt, (ep.step stB).nx, fun ρ' M' q F' H' σ' st r => ?_, (ep.step stB).ex⟩
    · exact ⟨F', M', ρ', stA.trans st, r, q⟩
    · exact ⟨F', M', ρ', stA.trans st, r, q⟩
  · have e : i = ds.length := by omega
    subst e
    rw [List.drop_length] at hw2
    exact .inl ⟨wk.stop H2 (st2.ff.trans st2.fh), ep.nx ρ2 M2 hw2 F2 H2 σ2 (st1.trans st2) re2⟩
theorem ds_while {c : Expr} {body : List Stmt} (hp : PassesOwn (model X.prog X.w) X.A X.env X.xe) (hc : PT X c (tT X.K W wt)) (hb : PSs X body (tS X.K W w1)) :
    PS X (.While c body [] pos) (tS X.K W fun K ρ M => ∃ n, vWhile wt w1 K n ρ M) := by
  refine PS.weak (ps_while hp hc hb) fun D σ H h => ?_
  obtain ⟨F, M, ρ, Kd, s, re, ⟨n, h⟩, ep⟩ := h
  refine ⟨fun m σ2 H2 => ∃ F2 M2 ρ2, Step X.K F M H F2 M2 H2 ∧ RepE X.K F2 σ2 ρ2 ∧ vWhile wt w1 Kd m ρ2 M2, ⟨n, F, M, ρ, Step.refl s, re, h⟩, ?_⟩
  rintro m σ2 H2 ⟨F2, M2, ρ2, st2, re2, hw⟩
  cases m with
  | zero => exact absurd hw id
  | succ m =>
    refine ⟨F2, M2, ρ2, _, _, st2.sat, re2, hw, fun k M3 q F3 H3 st3 => ?_, (ep.step st2).px re2⟩
    have st := st2.trans st3
    cases k with
    | true =>
      have q : w1 { Kd with nx := vWhile wt w1 Kd m, ct := vWhile wt w1 Kd m, bk := Kd.nx } ρ2 M3 := by simpa using q
      refine iteT ⟨fun σ' H' => ∃ F2 M2 ρ2, Step X.K F M H F2 M2 H' ∧ RepE X.K F2 σ' ρ2 ∧ vWhile wt w1 Kd m ρ2 M2, fun σ' H' n => ⟨m, Nat.lt_succ_self m, n⟩, ?_⟩
      exact ⟨F3, M3, ρ2, _, st3.sat, re2.mono st3.ff, q, fun ρ' M' q F' H' σ' s' r => ⟨F', M', ρ', st.trans s', r, q⟩, (ep.step st).rt, (ep.step st).nx, fun ρ' M' q F' H' σ' s' r => ⟨F', M', ρ', st.trans s', r, q⟩, (ep.step st).ex⟩
    | false =>
      have q : Kd.nx ρ2 M3 := by simpa using q
      exact iteF (ep.nx ρ2 M3 q F3 H3 σ2 st (re2.mono st3.ff))
theorem ds_pass : PS X (.Pass pos) (tS X.K W fun K ρ M => K.nx ρ M) := PS.weak ps_pass fun D σ H ⟨F, M, ρ, Kd, s, re, h, ep⟩ => ep.nx ρ M h F H σ (Step.refl s) re
theorem ds_brk : PS X (.Break pos) (tS X.K W fun K ρ M => K.bk ρ M) := PS.weak ps_break fun D σ H ⟨F, M, ρ, Kd, s, re, h, ep⟩ => ep.bk ρ M h F H σ (Step.refl s) re
theorem ds_cont : PS X (.Continue pos) (tS X.K W fun K ρ M => K.ct ρ M) := PS.weak ps_continue fun D σ H ⟨F, M, ρ, Kd, s, re, h, ep⟩ => ep.ct ρ M h F H σ (Step.refl s) re
theorem dss_nil : PSs X [] (tS X.K W fun K ρ M => K.nx ρ M) := PSs.weak pss_nil fun D σ H ⟨F, M, ρ, Kd, s, re, h, ep⟩ => ep.nx ρ M h F H σ (Step.refl s) re
theorem dss_cons {st : Stmt} {r : List Stmt} (h1 : PS X st (tS X.K W w1)) (h2 : PSs X r (tS X.K W w2)) : PSs X (st :: r) (tS X.K W fun K ρ M => w1 { K with nx := fun ρ1 M1 => w2 K ρ1 M1 } ρ M) := by
  refine PSs.weak (pss_cons h1 h2) fun D σ H h => ?_
  obtain ⟨F, M, ρ, Kd, s, re, h, ep⟩ := h
  exact ⟨F, M, ρ, _, s, re, h, fun ρ' M' q F' H' σ' st r => ⟨F', M', ρ', Kd, st.sat, r, q, ep.step st⟩, ep.rt, ep.bk, ep.ct, ep.ex⟩
theorem dss_frz {r : List Stmt} {i : Nat} (h : PSs X r (tS X.K W w1)) : PSs X r (tS X.K W fun K ρ M => ∃ p ds, ρ[i]? = some (some (.ref p)) ∧ M p = some (.lst ds) ∧ w1 K (ρ.set i (some (.lst ds))) (delM M p)) := by
  refine PSs.weak h fun D σ H h => ?_
  obtain ⟨F, M, ρ, Kd, s, re, ⟨p, ds, e1, e2, h⟩, ep⟩ := h
  obtain ⟨v, e3, rv⟩ := re.get i _ e1
  cases rv
  obtain ⟨f0, ho, hp, xs, e4, r4⟩ := s.m p _ e2
  subst e4
  have st := s.freeze e2 hp
  refine ⟨_, _, _, Kd, st.sat, ?_, h, ep.step st⟩
  have e5 : σ = σ.set i (some (.ref p)) := by
    apply List.ext_getElem?
    intro j
    by_cases hj : i = j
    · subst hj
      rw [List.getElem?_set_self (List.getElem?_eq_some_iff.mp e3).1, e3]
    · rw [List.getElem?_set_ne hj]
  rw [e5]
  exact (re.mono st.ff).set (.lst (SqL.of upd_same) (r4.mono st.ff))
end
end Vp
namespace Vp
open PySem PySem.Spec PyProof.Rows L2

theorem kind_loc {X : Cx} {c : SC} (hsc : X.env.scope = c.sc) {x : Str} (h : c.sc.names.lookup x = some .local) : X.env.scope.names.lookup x = some .local := by rw [hsc]; exact h
section
variable {Γ : List Fn}
mutual
theorem sS : ∀ (t : S) (c : SC) (X : Cx) (W : WX) (s : Stmt), XO X Γ W c → X.env.scope.kind = .function → isS c t s = true → PS X s (tS X.K W (vS Γ t))
  | .asg tg e, c, X, W, s, hx, hk, h => by
    unfold isS at h
    cases e1 : dAsg s with
    | none => simp only [e1] at h; cases h
    | some n =>
      obtain ⟨t, v⟩ := n
      simp only [e1] at h
      obtain ⟨p, rfl⟩ := dAsg_inv e1
      obtain ⟨h1, g2⟩ := and2 h
      obtain ⟨h2, g3⟩ := and2 g2
      obtain ⟨h3, h4⟩ := and2 g3
      exact ds_asg h1 h2 (isTg_star h3) (sE e c X W v hx h4) (sTg hx.hN hx.nd hx.sc hx.fn hx.calm tg t h3)
  | .setC i e, c, X, W, s, hx, hk, h => by
    unfold isS at h
    cases e1 : dSetC s with
    | none => simp only [e1] at h; cases h
    | some n =>
      obtain ⟨y, x, t, it', ifs, scope, b⟩ := n
      simp only [e1] at h
      cases e with
      | comp m elt tg it cond =>
        simp only at h
        obtain ⟨h0, g1⟩ := and2 h
        subst h0
        obtain ⟨py, p, q, rfl, hl, hany⟩ := dSetC_inv e1
        obtain ⟨h1, g2⟩ := and2 g1
        obtain ⟨h2, g3⟩ := and2 g2
        obtain ⟨h3, g4⟩ := and2 g3
        obtain ⟨h4, g5⟩ := and2 g4
        obtain ⟨h5, g6⟩ := and2 g5
        obtain ⟨h6, g7⟩ := and2 g6
        obtain ⟨h7, g8⟩ := and2 g7
        obtain ⟨h8, g9⟩ := and2 g8
        obtain ⟨h9, h10⟩ := and2 g9
        have nd : X.N.Nodup := by rw [hx.hN]; exact hx.nd
        have ok : BlkOk X.N X.env.scope scope (ownOf c.N (slotsT tg)) := by rw [hx.hN, hx.sc]; exact blkOk_by h6
        have pi := sI it c X W t it' hx h5
        have hg : ∀ (s : Shared) (H : Hp) (C : Addr) (cl : List (Str × Addr)) (fp : List Addr), PG (X.blk s H scope (compEnvC scope cl C X.env) fp) t (tG X.K tg) := fun s H C cl fp =>
          let y := hx.blk scope s H C cl fp
          sTg y.hN y.nd y.sc y.fn y.calm tg t h8
        have ht : ∀ (s : Shared) (H : Hp) (C : Addr) (cl : List (Str × Addr)) (fp : List Addr), PTs (X.blk s H scope (compEnvC scope cl C X.env) fp) ifs (tT X.K W0 (vTo Γ cond)) := fun s H C cl fp =>
          sTo cond (c.blk scope) _ W0 ifs (hx.blk scope s H C cl fp) h9
        have he : ∀ (s : Shared) (H : Hp) (C : Addr) (cl : List (Str × Addr)) (fp : List Addr), PE (X.blk s H scope (compEnvC scope cl C X.env) fp) x (tE X.K W0 (vE Γ elt)) := fun s H C cl fp =>
          sE elt (c.blk scope) _ W0 x (hx.blk scope s H C cl fp) h10
        have hy : X.N[i]? = some y := by rw [hx.hN]; exact of_decide_eq_true h1
        have hyl : X.env.scope.names.lookup y = some .local := kind_loc hx.sc (of_decide_eq_true h2)
        exact ds_setC (ps_setLc (i := i) (hx.calm h3) nd hy hyl (sw_true hk hyl hl hany) pi ok hg ht he (noSet_fold h4)) (de_comp (pos := p) (hx.calm h3) nd pi ok (of_decide_eq_true h7) hg ht he)
      | _ => cases h
  | .aug i op e, c, X, W, s, hx, hk, h => by
    unfold isS at h
    cases e1 : dAug s with
    | none => simp only [e1] at h; cases h
    | some n =>
      obtain ⟨x, o, v⟩ := n
      simp only [e1] at h
      obtain ⟨q, p, rfl⟩ := dAug_inv e1
      obtain ⟨h1, g2⟩ := and2 h
      obtain ⟨h2, g3⟩ := and2 g2
      obtain ⟨h3, g4⟩ := and2 g3
      obtain ⟨h4, h5⟩ := and2 g4
      obtain rfl := of_decide_eq_true h1
      obtain ⟨l, f⟩ := locB_ok h4
      exact ds_aug h2 (by rw [hx.hN]; exact hx.nd) (by rw [hx.hN]; exact of_decide_eq_true h3) (by rw [hx.sc]; exact l) (f.imp (hx.fn x) fun z => by rw [hx.sc]; exact z) (sE e c X W v hx h5)
  | .ret e, c, X, W, s, hx, hk, h => by
    unfold isS at h
    split at h
    · rename_i v e1
      obtain ⟨p, rfl⟩ := dRet_inv e1
      exact ds_ret (sE e c X W v hx h)
    · cases h
  | .retN, c, X, W, s, hx, hk, h => by
    unfold isS at h
    split at h
    · rename_i e1
      obtain ⟨p, rfl⟩ := dRet_inv e1
      exact ds_retN
    · cases h
  | .ifs t a b, c, X, W, s, hx, hk, h => by
    unfold isS at h
    cases e1 : dIfS s with
    | none => simp only [e1] at h; cases h
    | some n =>
      obtain ⟨u, x, y⟩ := n
      simp only [e1] at h
      obtain ⟨p, rfl⟩ := dIfS_inv e1
      obtain ⟨h1, g2⟩ := and2 h
      obtain ⟨h2, h3⟩ := and2 g2
      exact ds_if (sT t c X W u hx h1) (sSs a c X W x hx hk h2) (sSs b c X W y hx hk h3)
  | .for tg it body, c, X, W, s, hx, hk, h => by
    unfold isS at h
    cases e1 : dFor s with
    | none => simp only [e1] at h; cases h
    | some n =>
      obtain ⟨t, i, b⟩ := n
      simp only [e1] at h
      obtain ⟨p, rfl⟩ := dFor_inv e1
      obtain ⟨h1, g2⟩ := and2 h
      obtain ⟨h2, g3⟩ := and2 g2
      obtain ⟨h3, g4⟩ := and2 g3
      obtain ⟨h4, h5⟩ := and2 g4
      exact ds_for h2 hx.po (hx.calm h1) (sI it c X W t i hx h3) (sTg hx.hN hx.nd hx.sc hx.fn hx.calm tg t h4) (sSs body c X W b hx hk h5)
  | .while t body, c, X, W, s, hx, hk, h => by
    unfold isS at h
    cases e1 : dWhile s with
    | none => simp only [e1] at h; cases h
    | some n =>
      obtain ⟨u, b⟩ := n
      simp only [e1] at h
      obtain ⟨p, rfl⟩ := dWhile_inv e1
      obtain ⟨h1, h2⟩ := and2 h
      exact ds_while hx.po (sT t c X W u hx h1) (sSs body c X W b hx hk h2)
  | .expr e, c, X, W, s, hx, hk, h => by
    unfold isS at h
    cases e1 : dExpr s with
    | none => simp only [e1] at h; cases h
    | some v =>
      simp only [e1] at h
      obtain ⟨p, rfl⟩ := dExpr_inv e1
      obtain ⟨h1, h2⟩ := and2 h
      exact ds_expr h1 (sE e c X W v hx h2)
  | .app o e, c, X, W, s, hx, hk, h => by
    unfold isS at h
    cases e1 : dExpr s with
    | none => simp only [e1] at h; cases h
    | some v =>
      simp only [e1] at h
      obtain ⟨p, rfl⟩ := dExpr_inv e1
      cases e2 : dApp v with
      | none => simp only [e2] at h; cases h
      | some n =>
        obtain ⟨x, y⟩ := n
        simp only [e2] at h
        obtain ⟨ap, cp, rfl, hl⟩ := dApp_inv e2
        obtain ⟨h1, g2⟩ := and2 h
        obtain ⟨h2, g3⟩ := and2 g2
        obtain ⟨h3, h4⟩ := and2 g3
        exact ds_app h1 h2 hl (sE o c X W x hx h3) (sE e c X W y hx h4)
  | .setIx o i e, c, X, W, s, hx, hk, h => by
    unfold isS at h
    cases e1 : dAsg s with
    | none => simp only [e1] at h; cases h
    | some n =>
      obtain ⟨t, v⟩ := n
      simp only [e1] at h
      obtain ⟨p, rfl⟩ := dAsg_inv e1
      cases e2 : dSub t with
      | none => simp only [e2] at h; cases h
      | some n =>
        obtain ⟨x, y⟩ := n
        simp only [e2] at h
        obtain ⟨q, rfl⟩ := dSub_inv e2
        obtain ⟨h1, g2⟩ := and2 h
        obtain ⟨h2, g3⟩ := and2 g2
        obtain ⟨h3, g4⟩ := and2 g3
        obtain ⟨h4, h5⟩ := and2 g4
        exact ds_setIx h1 h2 (sE e c X W v hx h3) (sE o c X W x hx h4) (sE i c X W y hx h5)
  | .pass, c, X, W, s, hx, hk, h => by
    unfold isS at h
    cases s <;> first | (cases h; done) | exact ds_pass
  | .brk, c, X, W, s, hx, hk, h => by
    unfold isS at h
    cases s <;> first | (cases h; done) | exact ds_brk
  | .cont, c, X, W, s, hx, hk, h => by
    unfold isS at h
    cases s <;> first | (cases h; done) | exact ds_cont
  | .never, c, X, W, s, hx, hk, h => PS.weak ps_never fun D σ H ⟨_, _, _, _, _, _, h, _⟩ => h
theorem sSs : ∀ (t : Ss) (c : SC) (X : Cx) (W : WX) (sts : List Stmt), XO X Γ W c → X.env.scope.kind = .function → isSs c t sts = true → PSs X sts (tS X.K W (vSs Γ t))
  | .nil, c, X, W, [], hx, hk, h => dss_nil
  | .nil, c, X, W, _ :: _, hx, hk, h => by unfold isSs at h; cases h
  | .cons s r, c, X, W, [], hx, hk, h => by unfold isSs at h; cases h
  | .cons s r, c, X, W, x :: xs, hx, hk, h => by
    unfold isSs at h
    obtain ⟨h1, h2⟩ := and2 h
    exact dss_cons (w1 := vS Γ s) (w2 := vSs Γ r) (sS s c X W x hx hk h1) (sSs r c X W xs hx hk h2)
  | .frz i r, c, X, W, sts, hx, hk, h => by
    unfold isSs at h
    exact dss_frz (w1 := vSs Γ r) (sSs r c X W sts hx hk h)
end
end

/-! ### a def -/
def startD (n : Nat) (ds : List D) : Rho := ds.map some ++ List.replicate (n - ds.length) none
theorem start_rep {K : PySem.W.Frag} {F : Hp} {N : List Str} {vs : List V} {ds : List D} (r : RepL K F vs ds) : RepE K F (L2.start N vs) (startD N.length ds) := by
  have hl := r.length
  refine ⟨by simp [L2.start, startD, hl], fun i d e => ?_⟩
  unfold startD at e
  unfold L2.start
  by_cases hi : i < ds.length
  · rw [List.getElem?_append_left (by simpa using hi), List.getElem?_map] at e
    cases e1 : ds[i]? with
    | none => rw [e1] at e; cases e
    | some d' =>
      rw [e1] at e; cases e
      obtain ⟨v, hv, rv⟩ := r.get e1
      exact ⟨v, by rw [List.getElem?_append_left (by simp; omega), List.getElem?_map, hv]; rfl, rv⟩
  · rw [List.getElem?_append_right (by simp; omega)] at e
    rw [List.getElem?_replicate] at e
    split at e <;> cases e
/-- what a def's body is to reach -/
def endsOf (Q : QE) (X : XQ) : EndsD where
  nx := fun _ M => ∃ M', Sub M' M ∧ Q .non M'
  rt := fun d M => ∃ M', Sub M' M ∧ Q d M'
  bk := fun _ _ => False
  ct := fun _ _ => False
  ex := fun c fs _ M => ∃ M', Sub M' M ∧ X c fs M'
/-- what the functions of the text promise, wherever one stands -/
def Fns (P : Program) (w : World) (K : PySem.W.Frag) (mg : Str → Option Value) (base : Heap) (k : Nat) (Γ : List Fn) : Prop :=
  ∀ g ∈ Γ, ∃ f fd ps, FnOk P w K mg base (L2.CX P w) k f fd ps (spOf K g.n g.con) ∧ mg g.name = some (.ref f) ∧ PySem.W.keepIn K (.ref f) = true ∧ Binds K fd ps []
theorem Fns.mono {P : Program} {w : World} {K : PySem.W.Frag} {mg : Str → Option Value} {base : Heap} {j k : Nat} {Γ : List Fn} (h : Fns P w K mg base j Γ) (hk : j ≤ k) : Fns P w K mg base k Γ := fun g hg =>
  let ⟨f, fd, ps, F, a, b, c⟩ := h g hg
  ⟨f, fd, ps, F.mono hk, a, b, c⟩
theorem Fns.cons {P : Program} {w : World} {K : PySem.W.Frag} {mg : Str → Option Value} {base : Heap} {k : Nat} {g : Fn} {Γ : List Fn} {f : Addr} {fd : FuncData} {ps : List Str}
    (F : FnOk P w K mg base (L2.CX P w) k f fd ps (spOf K g.n g.con)) (hm : mg g.name = some (.ref f)) (hk : PySem.W.keepIn K (.ref f) = true) (hb : Binds K fd ps []) (h : Fns P w K mg base k Γ) : Fns P w K mg base k (g :: Γ) := fun g' hg => by
  rcases List.mem_cons.mp hg with e | hg
  · subst e; exact ⟨f, fd, ps, F, hm, hk, hb⟩
  · exact h g' hg
def mkSC (N : List Str) (sc : Scope) (Γ : List Fn) (bis : List Str) : SC := ⟨N, sc, fun _ => true, true, Γ.map (·.name), bis⟩
/-- THE RULE for a def: its text is the small language's body b, and b does what the promise says -/
theorem def_ok {P : Program} {w : World} {K : PySem.W.Frag} {mg : Str → Option Value} {base : Heap} {x : Str} {st : Stmt} {f : Addr} {fd : FuncData} {N ps : List Str} {k : Nat} {Γ : List Fn} {bis : List Str} {b : Ss} {con : Con} {n : Nat} (F : Fun K x x st f fd) (sc : FnScope N ps (defScope st)) (hn : n = ps.length)
    (hb : isSs (mkSC N (defScope st) Γ bis) b (defBody st) = true) (hG : Fns P w K mg base k Γ) (hbi : ∀ x ∈ bis, mg x = none)
    (hc : ∀ ds M Q X, ds.length = n → con ds M Q X → vSs Γ b (endsOf Q X) (startD N.length ds) M) : FnOk P w K mg base (L2.CX P w) (k + 1) f fd ps (spOf K n con) := by
  refine F.okX sc (fun vs H Q E h => ?_) fun cdv A outer s H vs Q E hr h => ?_
  · obtain ⟨F, M, ds, Q', X', s, r, hl, _⟩ := h
    rw [r.length, hl, hn]
  · obtain ⟨F0, M, ds, Q', X', sat, r, hl, hcon, pv, px⟩ := h
    have xo : XO (cxOf (L2.CX P w) P w K mg base N x (defScope st) f cdv A outer s H E) Γ (fun cls d _ H => E cls d H) (mkSC N (defScope st) Γ bis) :=
      ⟨rfl, sc.nd, rfl, fun _ _ => rfl, fun _ => rfl, rfl, hbi, takes_of rfl rfl rfl rfl, passes_of rfl, k, hr, fun g hg => hG g hg⟩
    refine ⟨_, sSs b _ _ _ (defBody st) xo sc.kind hb, ?_⟩
    refine ⟨F0, M, startD N.length ds, _, sat, start_rep r, hc ds M Q' X' hl hcon, ⟨fun ρ' M' q F' H' σ' st r => ?_, fun d M' q F' H' v st r => ?_, fun ρ' M' q => absurd q id, fun ρ' M' q => absurd q id, fun c fs ρ' M' q F' H' σ' d st r rx => ?_⟩⟩
    · obtain ⟨M2, sub, q⟩ := q
      exact pv .non M2 q F' H' .non (st.forget sub) .non
    · obtain ⟨M2, sub, q⟩ := q
      exact pv d M2 q F' H' v (st.forget sub) r
    · obtain ⟨M2, sub, q⟩ := q
      exact px c fs M2 q F' H' d (st.forget sub) rx
end Vp
namespace Vp
open PySem PySem.Spec PyProof.Rows L2

theorem atI0 {α : Type} {x : α} {xs : List α} : atI (x :: xs) 0 = some x := atI_nat (xs := x :: xs) (j := 0) rfl
theorem atI1 {α : Type} {x y : α} {xs : List α} : atI (x :: y :: xs) 1 = some y := atI_nat (xs := x :: y :: xs) (j := 1) rfl
theorem atI2 {α : Type} {x y z : α} {xs : List α} : atI (x :: y :: z :: xs) 2 = some z := atI_nat (xs := x :: y :: z :: xs) (j := 2) rfl
theorem atI3 {α : Type} {x y z u : α} {xs : List α} : atI (x :: y :: z :: u :: xs) 3 = some u := atI_nat (xs := x :: y :: z :: u :: xs) (j := 3) rfl
theorem ixN0 {n : Nat} : ixN (n + 1) 0 = some 0 := by simp [ixN]
theorem ixN1 {n : Nat} : ixN (n + 2) 1 = some 1 := by simp [ixN]; omega
theorem ixN2 {n : Nat} : ixN (n + 3) 2 = some 2 := by simp [ixN]; omega
theorem ifB {p : Prop} [Decidable p] {A B : Prop} : (if decide p = true then A else B) = (if p then A else B) := by simp
theorem ifNB {c : Bool} {A B : Prop} : (if (!c) = true then A else B) = (if c = true then B else A) := by cases c <;> simp
theorem exIf {α : Type} {c : Prop} [Decidable c] {x : α} {P : α → Prop} : (∃ d, (if c then some x else none) = some d ∧ P d) ↔ c ∧ P x := by
  by_cases h : c
  · simp [h]
  · simp [h]
theorem iteI {c : Prop} [Decidable c] {A B : Prop} (h1 : c → A) (h2 : ¬c → B) : if c then A else B := by
  by_cases h : c
  · rw [if_pos h]; exact h1 h
  · rw [if_neg h]; exact h2 h
end Vp
namespace Vp
open PySem PySem.Spec PyProof.Rows L2

/-! ### the stream of numbers that every law draws from -/
def b_law_stream : Ss := .cons (.ret (.lst true (.cons (.bi (.list false) (.cons (.var 0) .nil)) (.cons (.cint 0) (.cons (.cint 0) .nil))))) .nil
def b_law_next_1 : Ss := .cons (.asg (.nm 3) (.bi .abs (.cons (.ix (.ix (.var 0) (.cint 0)) (.var 2)) .nil))) .nil
def b_law_next_2 : Ss := .cons (.asg (.nm 3) (.bin .Add (.bin .Mult (.bin .Mod (.bi .int (.cons (.bin .Add (.bin .Mult (.var 3) (.cint 16807)) (.cint 13)) .nil)) (.cint 2147483647)) (.cint 65537)) (.var 3))) .nil
def b_law_next_3 : Ss := .cons (.asg (.nm 3) (.bin .Mod (.bi .int (.cons (.bin .Add (.bin .Add (.bin .Mult (.var 3) (.cint 48271)) (.bin .Mult (.var 2) (.cint 69621))) (.cint 11)) .nil)) (.cint 2147483647))) b_law_next_2
def b_law_next_4 : Ss := .cons (.setIx (.var 0) (.cint 2) (.bin .Add (.var 2) (.cint 1))) .nil
def b_law_next_5 : Ss := .cons (.setIx (.var 0) (.cint 1) (.var 3)) b_law_next_4
def b_law_next_6 : Ss := .cons (.ifs (.cmp .Lt (.var 3) (.bin .Pow (.cint 10) (.cint 18))) b_law_next_3 .nil) b_law_next_5
def b_law_next_7 : Ss := .cons (.ifs (.cmp .Lt (.var 2) (.bi .len (.cons (.ix (.var 0) (.cint 0)) .nil))) b_law_next_1 .nil) b_law_next_6
def b_law_next_8 : Ss := .cons (.asg (.nm 3) (.bin .Add (.cint 7) (.var 2))) b_law_next_7
def b_law_next_9 : Ss := .cons (.asg (.nm 2) (.ix (.var 0) (.cint 2))) b_law_next_8
def b_law_next_10 : Ss := .cons (.ret (.var 4)) .nil
def b_law_next_11 : Ss := .cons (.setIx (.var 0) (.cint 1) (.bin .FloorDiv (.ix (.var 0) (.cint 1)) (.var 1))) b_law_next_10
def b_law_next_12 : Ss := .cons (.asg (.nm 4) (.bin .Mod (.bi .int (.cons (.ix (.var 0) (.cint 1)) .nil)) (.var 1))) b_law_next_11
def b_law_next : Ss := .cons (.ifs (.cmp .Eq (.ix (.var 0) (.cint 1)) (.cint 0)) b_law_next_9 .nil) b_law_next_12
def Stream (M : Mo) (p : Addr) (ns : List Int) : Prop := ∃ c k : Int, 0 ≤ c ∧ 0 ≤ k ∧ M p = some (.lst [.lst (ns.map .int), .int c, .int k])
/-- what was known still stands, but for the stream, which goes on -/
def Mv (M M' : Mo) (p : Addr) (ns : List Int) : Prop := (∀ a, a ≠ p → ∀ o, M a = some o → M' a = some o) ∧ Stream M' p ns
theorem Mv.refl {M : Mo} {p : Addr} {ns : List Int} (h : Stream M p ns) : Mv M M p ns := ⟨fun _ _ _ e => e, h⟩
theorem Mv.trans {M M1 M2 : Mo} {p : Addr} {ns : List Int} (a : Mv M M1 p ns) (b : Mv M1 M2 p ns) : Mv M M2 p ns := ⟨fun x hx o e => b.1 x hx o (a.1 x hx o e), b.2⟩
theorem Stream.ne {M : Mo} {p q : Addr} {ns : List Int} (h : Stream M p ns) (e : M q = none) : q ≠ p := fun z => by
  obtain ⟨c, k, _, _, h⟩ := h
  subst z; rw [e] at h; cases h
/-- a list of this def's own, beside the stream -/
structure Loc (M0 M : Mo) (p : Addr) (ns : List Int) (q : Addr) (ds : List D) : Prop where
  mv : Mv M0 M p ns
  fr : M0 q = none
  ne : q ≠ p
  at' : M q = some (.lst ds)
theorem Loc.new {M0 M : Mo} {p : Addr} {ns : List Int} {q : Addr} {ds : List D} (m : Mv M0 M p ns) (e : M q = none) : Loc M0 (updM M q (.lst ds)) p ns q ds := by
  have hne := m.2.ne e
  obtain ⟨c, k, c0, k0, hs⟩ := m.2
  have f : M0 q = none := by
    cases h : M0 q with
    | none => rfl
    | some o => rw [m.1 q hne o h] at e; cases e
  refine ⟨⟨fun a ha o h => ?_, c, k, c0, k0, by rw [updM_ne hne.symm]; exact hs⟩, f, hne, updM_same⟩
  rw [updM_ne (fun z => by subst z; rw [f] at h; cases h)]
  exact m.1 a ha o h
theorem Loc.set {M0 M : Mo} {p : Addr} {ns : List Int} {q : Addr} {ds es : List D} (l : Loc M0 M p ns q ds) : Loc M0 (updM M q (.lst es)) p ns q es := by
  obtain ⟨c, k, c0, k0, hs⟩ := l.mv.2
  refine ⟨⟨fun a ha o h => ?_, c, k, c0, k0, by rw [updM_ne l.ne.symm]; exact hs⟩, l.fr, l.ne, updM_same⟩
  rw [updM_ne (fun z => by subst z; rw [l.fr] at h; cases h)]
  exact l.mv.1 a ha o h
theorem Loc.draw {M0 M M1 : Mo} {p : Addr} {ns : List Int} {q : Addr} {ds : List D} (l : Loc M0 M p ns q ds) (m : Mv M M1 p ns) : Loc M0 M1 p ns q ds :=
  ⟨l.mv.trans m, l.fr, l.ne, m.1 q l.ne _ l.at'⟩
/-- another list of its own, made or changed later -/
theorem Loc.other {M0 M M1 : Mo} {p : Addr} {ns : List Int} {q q' : Addr} {ds es : List D} (l : Loc M0 M p ns q ds) (h : Loc M M1 p ns q' es) : Loc M0 M1 p ns q ds := l.draw h.mv
theorem Loc.frz {M0 M : Mo} {p : Addr} {ns : List Int} {q : Addr} {ds : List D} (l : Loc M0 M p ns q ds) : Mv M0 (delM M q) p ns := by
  obtain ⟨c, k, c0, k0, hs⟩ := l.mv.2
  refine ⟨fun a ha o h => ?_, c, k, c0, k0, by rw [delM_ne l.ne.symm]; exact hs⟩
  rw [delM_ne (fun z => by subst z; rw [l.fr] at h; cases h)]
  exact l.mv.1 a ha o h
/-- a list of its own in a def that draws nothing -/
structure Own (M0 M : Mo) (q : Addr) (ds : List D) : Prop where
  mv : Sub M0 M
  fr : M0 q = none
  at' : M q = some (.lst ds)
theorem Sub.none {M0 M : Mo} (s : Sub M0 M) {q : Addr} (e : M q = none) : M0 q = Option.none := by
  cases h : M0 q with
  | none => rfl
  | some o => rw [s q o h] at e; cases e
theorem Own.new {M0 M : Mo} {q : Addr} {ds : List D} (m : Sub M0 M) (e : M q = none) : Own M0 (updM M q (.lst ds)) q ds := ⟨m.new (m.none e), m.none e, updM_same⟩
theorem Own.set {M0 M : Mo} {q : Addr} {ds es : List D} (l : Own M0 M q ds) : Own M0 (updM M q (.lst es)) q es := ⟨l.mv.new l.fr, l.fr, updM_same⟩
theorem Own.sub {M0 M M1 : Mo} {q : Addr} {ds : List D} (l : Own M0 M q ds) (m : Sub M M1) : Own M0 M1 q ds := ⟨l.mv.trans m, l.fr, m q _ l.at'⟩
theorem Own.frz {M0 M : Mo} {q : Addr} {ds : List D} (l : Own M0 M q ds) : Sub M0 (delM M q) := l.mv.del l.fr

def C_stream : Con := fun ds M Q _ => ∃ ns : List Int, ds = [.lst (ns.map .int)] ∧ ∀ p M', Mv M M' p ns → Q (.ref p) M'
theorem w_stream (ds : List D) (M : Mo) (Q : QE) (X : XQ) (h : C_stream ds M Q X) : vSs [] b_law_stream (endsOf Q X) (startD 1 ds) M := by
  obtain ⟨ns, rfl, q⟩ := h
  simp (maxSteps := 400000) only [vSs, vS, vE, vEs, vT, vTo, vI, startD, endsOf, List.map_cons, List.map_nil, List.length_cons, List.length_nil, List.replicate, List.cons_append, List.nil_append, Nat.reduceAdd, Nat.reduceSub, Nat.reduceLeDiff, List.getElem?_cons_zero, List.getElem?_cons_succ, Option.some.injEq, exists_eq_left', exists_eq_left, exists_eq', exists_eq, bindT, bindTs, List.set_cons_zero, List.set_cons_succ, ixV, atI0, atI1, atI2, atI3, cmpV, cmpEq, cmpIs, fOp, fCmp, binV, augV, Bi.wp, Bi.val, truD, wipeR, slotsT, slotsTs, Int.cast_ofNat_Int, seqV, seqF, seqL, Option.map_some, D.ref.injEq, D.int.injEq, D.bl.injEq, MO.lst.injEq, exists_and_left, exists_and_right, updM_same, updM_updM, ixN0, ixN1, ixN2, ifB, ifNB, Bool.not_true, Bool.not_false, Bool.false_eq_true, Bool.true_eq_false, if_true, if_false, ite_true, ite_false, true_and, and_true, or_true, true_or, or_false, false_or, false_and, and_false, String.reduceEq, eq_self, decide_true, decide_false, exIf, ne_eq, not_false_eq_true, Nat.zero_le, b_law_stream]
  refine fun p e => ⟨_, Sub.refl _, q _ _ ⟨fun a ha o h => ?_, 0, 0, by omega, by omega, updM_same⟩⟩
  rw [updM_ne ha]; exact h
def C_next : Con := fun ds M Q _ => ∃ p m ns, ds = [.ref p, .int m] ∧ 0 < m ∧ m < 1073741824 ∧ Stream M p ns ∧ ∀ r M', 0 ≤ r → r < m → Mv M M' p ns → Q (.int r) M'
theorem use_next {M : Mo} {Q : QE} {X : XQ} {p : Addr} {m : Int} {ns : List Int} (h : Stream M p ns) (h0 : 0 < m) (h1 : m < 1073741824) (q : ∀ r M', 0 ≤ r → r < m → Mv M M' p ns → Q (.int r) M') : C_next [.ref p, .int m] M Q X := ⟨p, m, ns, rfl, h0, h1, h, q⟩
theorem w_next (ds : List D) (M : Mo) (Q : QE) (X : XQ) (h : C_next ds M Q X) : vSs [] b_law_next (endsOf Q X) (startD 5 ds) M := by
  obtain ⟨p, m, ns, rfl, m0, m1, ⟨c, k, c0, k0, hs⟩, q⟩ := h
  have tail : ∀ (K : EndsD) (M1 : Mo) (x y : Option D) (c k : Int), K.rt = (endsOf Q X).rt → 0 ≤ c → 0 ≤ k → (∀ a, a ≠ p → M1 a = M a) → M1 p = some (.lst [.lst (ns.map .int), .int c, .int k]) → vSs [] b_law_next_12 K [some (D.ref p), some (D.int m), x, y, none] M1 := by
    intro K M1 x y c k hK c0 k0 hf hs
    simp (maxSteps := 400000) only [vSs, vS, vE, vEs, vT, vTo, vI, startD, endsOf, List.map_cons, List.map_nil, List.length_cons, List.length_nil, List.replicate, List.cons_append, List.nil_append, Nat.reduceAdd, Nat.reduceSub, Nat.reduceLeDiff, List.getElem?_cons_zero, List.getElem?_cons_succ, Option.some.injEq, exists_eq_left', exists_eq_left, exists_eq', exists_eq, bindT, bindTs, List.set_cons_zero, List.set_cons_succ, ixV, atI0, atI1, atI2, atI3, cmpV, cmpEq, cmpIs, fOp, fCmp, binV, augV, Bi.wp, Bi.val, truD, wipeR, slotsT, slotsTs, Int.cast_ofNat_Int, seqV, seqF, seqL, Option.map_some, D.ref.injEq, D.int.injEq, D.bl.injEq, MO.lst.injEq, exists_and_left, exists_and_right, updM_same, updM_updM, ixN0, ixN1, ixN2, ifB, ifNB, Bool.not_true, Bool.not_false, Bool.false_eq_true, Bool.true_eq_false, if_true, if_false, ite_true, ite_false, true_and, and_true, or_true, true_or, or_false, false_or, false_and, and_false, String.reduceEq, eq_self, decide_true, decide_false, exIf, ne_eq, not_false_eq_true, Nat.zero_le, b_law_next_12, hs]
    refine ⟨by omega, ?_⟩
    simp (maxSteps := 400000) only [vSs, vS, vE, vEs, vT, vTo, vI, startD, endsOf, List.map_cons, List.map_nil, List.length_cons, List.length_nil, List.replicate, List.cons_append, List.nil_append, Nat.reduceAdd, Nat.reduceSub, Nat.reduceLeDiff, List.getElem?_cons_zero, List.getElem?_cons_succ, Option.some.injEq, exists_eq_left', exists_eq_left, exists_eq', exists_eq, bindT, bindTs, List.set_cons_zero, List.set_cons_succ, ixV, atI0, atI1, atI2, atI3, cmpV, cmpEq, cmpIs, fOp, fCmp, binV, augV, Bi.wp, Bi.val, truD, wipeR, slotsT, slotsTs, Int.cast_ofNat_Int, seqV, seqF, seqL, Option.map_some, D.ref.injEq, D.int.injEq, D.bl.injEq, MO.lst.injEq, exists_and_left, exists_and_right, updM_same, updM_updM, ixN0, ixN1, ixN2, ifB, ifNB, Bool.not_true, Bool.not_false, Bool.false_eq_true, Bool.true_eq_false, if_true, if_false, ite_true, ite_false, true_and, and_true, or_true, true_or, or_false, false_or, false_and, and_false, String.reduceEq, eq_self, decide_true, decide_false, exIf, ne_eq, not_false_eq_true, Nat.zero_le, b_law_next_11, hs]
    refine ⟨⟨by omega, by omega⟩, ?_⟩
    simp (maxSteps := 400000) only [vSs, vS, vE, vEs, vT, vTo, vI, startD, endsOf, List.map_cons, List.map_nil, List.length_cons, List.length_nil, List.replicate, List.cons_append, List.nil_append, Nat.reduceAdd, Nat.reduceSub, Nat.reduceLeDiff, List.getElem?_cons_zero, List.getElem?_cons_succ, Option.some.injEq, exists_eq_left', exists_eq_left, exists_eq', exists_eq, bindT, bindTs, List.set_cons_zero, List.set_cons_succ, ixV, atI0, atI1, atI2, atI3, cmpV, cmpEq, cmpIs, fOp, fCmp, binV, augV, Bi.wp, Bi.val, truD, wipeR, slotsT, slotsTs, Int.cast_ofNat_Int, seqV, seqF, seqL, Option.map_some, D.ref.injEq, D.int.injEq, D.bl.injEq, MO.lst.injEq, exists_and_left, exists_and_right, updM_same, updM_updM, ixN0, ixN1, ixN2, ifB, ifNB, Bool.not_true, Bool.not_false, Bool.false_eq_true, Bool.true_eq_false, if_true, if_false, ite_true, ite_false, true_and, and_true, or_true, true_or, or_false, false_or, false_and, and_false, String.reduceEq, eq_self, decide_true, decide_false, exIf, ne_eq, not_false_eq_true, Nat.zero_le, b_law_next_10, hK]
    refine ⟨_, Vp.Sub.refl _, q _ _ (Int.fmod_nonneg c0 (by omega)) (Int.fmod_lt_of_pos _ m0) ⟨fun a ha => ?_, c.fdiv m, k, Int.fdiv_nonneg c0 (by omega), k0, updM_same⟩⟩
    intro o ho; rw [updM_ne ha, hf a ha]; exact ho
  have mid : ∀ (K : EndsD) (y : Int), K.rt = (endsOf Q X).rt → 0 ≤ y → (∀ ρ M1, K.nx ρ M1 = vSs [] b_law_next_12 { K with nx := (endsOf Q X).nx} ρ M1) → vSs [] b_law_next_6 K [some (D.ref p), some (D.int m), some (D.int k), some (.int y), none] M := by
    intro K y hK y0 hn
    have fin : ∀ (K' : EndsD) (y : Int), 0 ≤ y → K'.nx = K.nx → vSs [] b_law_next_5 K' [some (D.ref p), some (D.int m), some (D.int k), some (.int y), none] M := by
      intro K' y y0 hK'
      simp (maxSteps := 400000) only [vSs, vS, vE, vEs, vT, vTo, vI, startD, endsOf, List.map_cons, List.map_nil, List.length_cons, List.length_nil, List.replicate, List.cons_append, List.nil_append, Nat.reduceAdd, Nat.reduceSub, Nat.reduceLeDiff, List.getElem?_cons_zero, List.getElem?_cons_succ, Option.some.injEq, exists_eq_left', exists_eq_left, exists_eq', exists_eq, bindT, bindTs, List.set_cons_zero, List.set_cons_succ, ixV, atI0, atI1, atI2, atI3, cmpV, cmpEq, cmpIs, fOp, fCmp, binV, augV, Bi.wp, Bi.val, truD, wipeR, slotsT, slotsTs, Int.cast_ofNat_Int, seqV, seqF, seqL, Option.map_some, D.ref.injEq, D.int.injEq, D.bl.injEq, MO.lst.injEq, exists_and_left, exists_and_right, updM_same, updM_updM, ixN0, ixN1, ixN2, ifB, ifNB, Bool.not_true, Bool.not_false, Bool.false_eq_true, Bool.true_eq_false, if_true, if_false, ite_true, ite_false, true_and, and_true, or_true, true_or, or_false, false_or, false_and, and_false, String.reduceEq, eq_self, decide_true, decide_false, exIf, ne_eq, not_false_eq_true, Nat.zero_le, b_law_next_5, hs]
      simp (maxSteps := 400000) only [vSs, vS, vE, vEs, vT, vTo, vI, startD, endsOf, List.map_cons, List.map_nil, List.length_cons, List.length_nil, List.replicate, List.cons_append, List.nil_append, Nat.reduceAdd, Nat.reduceSub, Nat.reduceLeDiff, List.getElem?_cons_zero, List.getElem?_cons_succ, Option.some.injEq, exists_eq_left', exists_eq_left, exists_eq', exists_eq, bindT, bindTs, List.set_cons_zero, List.set_cons_succ, ixV, atI0, atI1, atI2, atI3, cmpV, cmpEq, cmpIs, fOp, fCmp, binV, augV, Bi.wp, Bi.val, truD, wipeR, slotsT, slotsTs, Int.cast_ofNat_Int, seqV, seqF, seqL, Option.map_some, D.ref.injEq, D.int.injEq, D.bl.injEq, MO.lst.injEq, exists_and_left, exists_and_right, updM_same, updM_updM, ixN0, ixN1, ixN2, ifB, ifNB, Bool.not_true, Bool.not_false, Bool.false_eq_true, Bool.true_eq_false, if_true, if_false, ite_true, ite_false, true_and, and_true, or_true, true_or, or_false, false_or, false_and, and_false, String.reduceEq, eq_self, decide_true, decide_false, exIf, ne_eq, not_false_eq_true, Nat.zero_le, b_law_next_4]
      rw [hK', hn]
      exact tail _ _ _ _ _ _ hK y0 (by omega : 0 ≤ k + 1) (fun a ha => by rw [updM_ne ha]) updM_same
    simp (maxSteps := 400000) only [vSs, vS, vE, vEs, vT, vTo, vI, startD, endsOf, List.map_cons, List.map_nil, List.length_cons, List.length_nil, List.replicate, List.cons_append, List.nil_append, Nat.reduceAdd, Nat.reduceSub, Nat.reduceLeDiff, List.getElem?_cons_zero, List.getElem?_cons_succ, Option.some.injEq, exists_eq_left', exists_eq_left, exists_eq', exists_eq, bindT, bindTs, List.set_cons_zero, List.set_cons_succ, ixV, atI0, atI1, atI2, atI3, cmpV, cmpEq, cmpIs, fOp, fCmp, binV, augV, Bi.wp, Bi.val, truD, wipeR, slotsT, slotsTs, Int.cast_ofNat_Int, seqV, seqF, seqL, Option.map_some, D.ref.injEq, D.int.injEq, D.bl.injEq, MO.lst.injEq, exists_and_left, exists_and_right, updM_same, updM_updM, ixN0, ixN1, ixN2, ifB, ifNB, Bool.not_true, Bool.not_false, Bool.false_eq_true, Bool.true_eq_false, if_true, if_false, ite_true, ite_false, true_and, and_true, or_true, true_or, or_false, false_or, false_and, and_false, String.reduceEq, eq_self, decide_true, decide_false, exIf, ne_eq, not_false_eq_true, Nat.zero_le, b_law_next_6]
    refine ⟨by decide, ?_⟩
    split
    · simp (maxSteps := 400000) only [vSs, vS, vE, vEs, vT, vTo, vI, startD, endsOf, List.map_cons, List.map_nil, List.length_cons, List.length_nil, List.replicate, List.cons_append, List.nil_append, Nat.reduceAdd, Nat.reduceSub, Nat.reduceLeDiff, List.getElem?_cons_zero, List.getElem?_cons_succ, Option.some.injEq, exists_eq_left', exists_eq_left, exists_eq', exists_eq, bindT, bindTs, List.set_cons_zero, List.set_cons_succ, ixV, atI0, atI1, atI2, atI3, cmpV, cmpEq, cmpIs, fOp, fCmp, binV, augV, Bi.wp, Bi.val, truD, wipeR, slotsT, slotsTs, Int.cast_ofNat_Int, seqV, seqF, seqL, Option.map_some, D.ref.injEq, D.int.injEq, D.bl.injEq, MO.lst.injEq, exists_and_left, exists_and_right, updM_same, updM_updM, ixN0, ixN1, ixN2, ifB, ifNB, Bool.not_true, Bool.not_false, Bool.false_eq_true, Bool.true_eq_false, if_true, if_false, ite_true, ite_false, true_and, and_true, or_true, true_or, or_false, false_or, false_and, and_false, String.reduceEq, eq_self, decide_true, decide_false, exIf, ne_eq, not_false_eq_true, Nat.zero_le, b_law_next_3]
      refine ⟨by omega, by omega, by omega, ?_⟩
      simp (maxSteps := 400000) only [vSs, vS, vE, vEs, vT, vTo, vI, startD, endsOf, List.map_cons, List.map_nil, List.length_cons, List.length_nil, List.replicate, List.cons_append, List.nil_append, Nat.reduceAdd, Nat.reduceSub, Nat.reduceLeDiff, List.getElem?_cons_zero, List.getElem?_cons_succ, Option.some.injEq, exists_eq_left', exists_eq_left, exists_eq', exists_eq, bindT, bindTs, List.set_cons_zero, List.set_cons_succ, ixV, atI0, atI1, atI2, atI3, cmpV, cmpEq, cmpIs, fOp, fCmp, binV, augV, Bi.wp, Bi.val, truD, wipeR, slotsT, slotsTs, Int.cast_ofNat_Int, seqV, seqF, seqL, Option.map_some, D.ref.injEq, D.int.injEq, D.bl.injEq, MO.lst.injEq, exists_and_left, exists_and_right, updM_same, updM_updM, ixN0, ixN1, ixN2, ifB, ifNB, Bool.not_true, Bool.not_false, Bool.false_eq_true, Bool.true_eq_false, if_true, if_false, ite_true, ite_false, true_and, and_true, or_true, true_or, or_false, false_or, false_and, and_false, String.reduceEq, eq_self, decide_true, decide_false, exIf, ne_eq, not_false_eq_true, Nat.zero_le, b_law_next_2]
      repeat (refine And.intro (by omega) ?_)
      exact fin _ _ (Int.add_nonneg (Int.mul_nonneg (Int.fmod_nonneg_of_pos _ (by decide)) (by decide)) (Int.fmod_nonneg_of_pos _ (by decide))) rfl
    · exact fin _ _ y0 rfl
  simp (maxSteps := 400000) only [vSs, vS, vE, vEs, vT, vTo, vI, startD, endsOf, List.map_cons, List.map_nil, List.length_cons, List.length_nil, List.replicate, List.cons_append, List.nil_append, Nat.reduceAdd, Nat.reduceSub, Nat.reduceLeDiff, List.getElem?_cons_zero, List.getElem?_cons_succ, Option.some.injEq, exists_eq_left', exists_eq_left, exists_eq', exists_eq, bindT, bindTs, List.set_cons_zero, List.set_cons_succ, ixV, atI0, atI1, atI2, atI3, cmpV, cmpEq, cmpIs, fOp, fCmp, binV, augV, Bi.wp, Bi.val, truD, wipeR, slotsT, slotsTs, Int.cast_ofNat_Int, seqV, seqF, seqL, Option.map_some, D.ref.injEq, D.int.injEq, D.bl.injEq, MO.lst.injEq, exists_and_left, exists_and_right, updM_same, updM_updM, ixN0, ixN1, ixN2, ifB, ifNB, Bool.not_true, Bool.not_false, Bool.false_eq_true, Bool.true_eq_false, if_true, if_false, ite_true, ite_false, true_and, and_true, or_true, true_or, or_false, false_or, false_and, and_false, String.reduceEq, eq_self, decide_true, decide_false, exIf, ne_eq, not_false_eq_true, Nat.zero_le, b_law_next, hs]
  split
  · simp (maxSteps := 400000) only [vSs, vS, vE, vEs, vT, vTo, vI, startD, endsOf, List.map_cons, List.map_nil, List.length_cons, List.length_nil, List.replicate, List.cons_append, List.nil_append, Nat.reduceAdd, Nat.reduceSub, Nat.reduceLeDiff, List.getElem?_cons_zero, List.getElem?_cons_succ, Option.some.injEq, exists_eq_left', exists_eq_left, exists_eq', exists_eq, bindT, bindTs, List.set_cons_zero, List.set_cons_succ, ixV, atI0, atI1, atI2, atI3, cmpV, cmpEq, cmpIs, fOp, fCmp, binV, augV, Bi.wp, Bi.val, truD, wipeR, slotsT, slotsTs, Int.cast_ofNat_Int, seqV, seqF, seqL, Option.map_some, D.ref.injEq, D.int.injEq, D.bl.injEq, MO.lst.injEq, exists_and_left, exists_and_right, updM_same, updM_updM, ixN0, ixN1, ixN2, ifB, ifNB, Bool.not_true, Bool.not_false, Bool.false_eq_true, Bool.true_eq_false, if_true, if_false, ite_true, ite_false, true_and, and_true, or_true, true_or, or_false, false_or, false_and, and_false, String.reduceEq, eq_self, decide_true, decide_false, exIf, ne_eq, not_false_eq_true, Nat.zero_le, b_law_next_9, hs]
    simp (maxSteps := 400000) only [vSs, vS, vE, vEs, vT, vTo, vI, startD, endsOf, List.map_cons, List.map_nil, List.length_cons, List.length_nil, List.replicate, List.cons_append, List.nil_append, Nat.reduceAdd, Nat.reduceSub, Nat.reduceLeDiff, List.getElem?_cons_zero, List.getElem?_cons_succ, Option.some.injEq, exists_eq_left', exists_eq_left, exists_eq', exists_eq, bindT, bindTs, List.set_cons_zero, List.set_cons_succ, ixV, atI0, atI1, atI2, atI3, cmpV, cmpEq, cmpIs, fOp, fCmp, binV, augV, Bi.wp, Bi.val, truD, wipeR, slotsT, slotsTs, Int.cast_ofNat_Int, seqV, seqF, seqL, Option.map_some, D.ref.injEq, D.int.injEq, D.bl.injEq, MO.lst.injEq, exists_and_left, exists_and_right, updM_same, updM_updM, ixN0, ixN1, ixN2, ifB, ifNB, Bool.not_true, Bool.not_false, Bool.false_eq_true, Bool.true_eq_false, if_true, if_false, ite_true, ite_false, true_and, and_true, or_true, true_or, or_false, false_or, false_and, and_false, String.reduceEq, eq_self, decide_true, decide_false, exIf, ne_eq, not_false_eq_true, Nat.zero_le, b_law_next_8]
    simp (maxSteps := 400000) only [vSs, vS, vE, vEs, vT, vTo, vI, startD, endsOf, List.map_cons, List.map_nil, List.length_cons, List.length_nil, List.replicate, List.cons_append, List.nil_append, Nat.reduceAdd, Nat.reduceSub, Nat.reduceLeDiff, List.getElem?_cons_zero, List.getElem?_cons_succ, Option.some.injEq, exists_eq_left', exists_eq_left, exists_eq', exists_eq, bindT, bindTs, List.set_cons_zero, List.set_cons_succ, ixV, atI0, atI1, atI2, atI3, cmpV, cmpEq, cmpIs, fOp, fCmp, binV, augV, Bi.wp, Bi.val, truD, wipeR, slotsT, slotsTs, Int.cast_ofNat_Int, seqV, seqF, seqL, Option.map_some, D.ref.injEq, D.int.injEq, D.bl.injEq, MO.lst.injEq, exists_and_left, exists_and_right, updM_same, updM_updM, ixN0, ixN1, ixN2, ifB, ifNB, Bool.not_true, Bool.not_false, Bool.false_eq_true, Bool.true_eq_false, if_true, if_false, ite_true, ite_false, true_and, and_true, or_true, true_or, or_false, false_or, false_and, and_false, String.reduceEq, eq_self, decide_true, decide_false, exIf, ne_eq, not_false_eq_true, Nat.zero_le, b_law_next_7, hs, List.length_map]
    split
    · simp (maxSteps := 400000) only [vSs, vS, vE, vEs, vT, vTo, vI, startD, endsOf, List.map_cons, List.map_nil, List.length_cons, List.length_nil, List.replicate, List.cons_append, List.nil_append, Nat.reduceAdd, Nat.reduceSub, Nat.reduceLeDiff, List.getElem?_cons_zero, List.getElem?_cons_succ, Option.some.injEq, exists_eq_left', exists_eq_left, exists_eq', exists_eq, bindT, bindTs, List.set_cons_zero, List.set_cons_succ, ixV, atI0, atI1, atI2, atI3, cmpV, cmpEq, cmpIs, fOp, fCmp, binV, augV, Bi.wp, Bi.val, truD, wipeR, slotsT, slotsTs, Int.cast_ofNat_Int, seqV, seqF, seqL, Option.map_some, D.ref.injEq, D.int.injEq, D.bl.injEq, MO.lst.injEq, exists_and_left, exists_and_right, updM_same, updM_updM, ixN0, ixN1, ixN2, ifB, ifNB, Bool.not_true, Bool.not_false, Bool.false_eq_true, Bool.true_eq_false, if_true, if_false, ite_true, ite_false, true_and, and_true, or_true, true_or, or_false, false_or, false_and, and_false, String.reduceEq, eq_self, decide_true, decide_false, exIf, ne_eq, not_false_eq_true, Nat.zero_le, b_law_next_1, hs]
      obtain ⟨j, rfl⟩ := Int.eq_ofNat_of_zero_le k0
      have hj : j < ns.length := by omega
      rw [atI_nat (v := D.int ns[j]) (by simp [hj])]
      simp (maxSteps := 400000) only [vSs, vS, vE, vEs, vT, vTo, vI, startD, endsOf, List.map_cons, List.map_nil, List.length_cons, List.length_nil, List.replicate, List.cons_append, List.nil_append, Nat.reduceAdd, Nat.reduceSub, Nat.reduceLeDiff, List.getElem?_cons_zero, List.getElem?_cons_succ, Option.some.injEq, exists_eq_left', exists_eq_left, exists_eq', exists_eq, bindT, bindTs, List.set_cons_zero, List.set_cons_succ, ixV, atI0, atI1, atI2, atI3, cmpV, cmpEq, cmpIs, fOp, fCmp, binV, augV, Bi.wp, Bi.val, truD, wipeR, slotsT, slotsTs, Int.cast_ofNat_Int, seqV, seqF, seqL, Option.map_some, D.ref.injEq, D.int.injEq, D.bl.injEq, MO.lst.injEq, exists_and_left, exists_and_right, updM_same, updM_updM, ixN0, ixN1, ixN2, ifB, ifNB, Bool.not_true, Bool.not_false, Bool.false_eq_true, Bool.true_eq_false, if_true, if_false, ite_true, ite_false, true_and, and_true, or_true, true_or, or_false, false_or, false_and, and_false, String.reduceEq, eq_self, decide_true, decide_false, exIf, ne_eq, not_false_eq_true, Nat.zero_le, vS]
      refine mid _ _ rfl (by split <;> omega) (fun _ _ => rfl)
    · exact mid _ _ rfl (by omega) (fun _ _ => rfl)
  · exact tail _ _ _ _ _ _ rfl c0 k0 (fun _ _ => rfl) hs

theorem vFor_cons {wb : EndsD → Rho → Mo → Prop} {tg : Tg} {K : EndsD} {d : D} {r : List D} {ρ : Rho} {M : Mo} (h : ∃ ρ', bindT tg d ρ = some ρ' ∧ ∀ N : Rho → Mo → Prop, (∀ ρ M, vFor wb tg K r ρ M → N ρ M) → wb { K with nx := N, ct := N, bk := K.nx } ρ' M) : vFor wb tg K (d :: r) ρ M := by
  obtain ⟨ρ', e, h⟩ := h
  exact ⟨ρ', e, h _ fun _ _ h => h⟩
theorem vComp_cons {we : VE} {wt : Rho → Mo → (Bool → Mo → Prop) → XQ → Prop} {tg : Tg} {ρ : Rho} {d : D} {r acc : List D} {M : Mo} {Q : List D → Mo → Prop} (h : ∃ ρ', bindT tg d (wipeR ρ (slotsT tg)) = some ρ' ∧ ∀ N : List D → Mo → Prop, (∀ a M, vComp we wt tg ρ r a M Q → N a M) → wt ρ' M (fun b M1 => if b = true then we ρ' M1 (fun y M2 => N (acc ++ [y]) M2) noX else N acc M1) noX) : vComp we wt tg ρ (d :: r) acc M Q := by
  obtain ⟨ρ', e, h⟩ := h
  exact ⟨ρ', e, h _ fun _ _ h => h⟩
/-- a comprehension by what stands with the items left -/
theorem vComp_run {α : Type} {we : VE} {wt : Rho → Mo → (Bool → Mo → Prop) → XQ → Prop} {tg : Tg} {ρ : Rho} (f : α → D) (I : List α → List D → Mo → Prop) {Q : List D → Mo → Prop}
    (step : ∀ x r acc M, I (x :: r) acc M → ∃ ρ', bindT tg (f x) (wipeR ρ (slotsT tg)) = some ρ' ∧ ∀ N : List D → Mo → Prop, (∀ a M, I r a M → N a M) → wt ρ' M (fun b M1 => if b = true then we ρ' M1 (fun y M2 => N (acc ++ [y]) M2) noX else N acc M1) noX)
    (fin : ∀ acc M, I [] acc M → Q acc M) : ∀ (xs : List α) (acc : List D) (M : Mo), I xs acc M → vComp we wt tg ρ (xs.map f) acc M Q
  | [], acc, M, h => fin acc M h
  | x :: r, acc, M, h => by
    obtain ⟨ρ', e, h⟩ := step x r acc M h
    exact vComp_cons ⟨ρ', e, fun N hN => h N fun a M hi => hN a M (vComp_run f I step fin r a M hi)⟩
/-- a comprehension that changes nothing -/
theorem vComp_map {α : Type} {we : VE} {wt : Rho → Mo → (Bool → Mo → Prop) → XQ → Prop} {tg : Tg} {ρ : Rho} (f g : α → D) {Q : List D → Mo → Prop} {M : Mo} {xs : List α} {acc : List D}
    (step : ∀ x ∈ xs, ∃ ρ', bindT tg (f x) (wipeR ρ (slotsT tg)) = some ρ' ∧ ∀ (N : QE) (N' : Mo → Prop), N (g x) M → wt ρ' M (fun b M1 => if b = true then we ρ' M1 N noX else N' M1) noX)
    (h : Q (acc ++ xs.map g) M) : vComp we wt tg ρ (xs.map f) acc M Q := by
  induction xs generalizing acc with
  | nil => simp only [List.map_nil, List.append_nil] at h; exact h
  | cons x r ih =>
    obtain ⟨ρ', e, hs⟩ := step x List.mem_cons_self
    exact vComp_cons ⟨ρ', e, fun N hN => hs _ _ (hN _ _ (ih (fun y hy => step y (List.mem_cons_of_mem _ hy)) (by simpa using h)))⟩
/-- a loop by what stands with the items left -/
theorem vFor_run {α : Type} {wb : EndsD → Rho → Mo → Prop} {tg : Tg} {K : EndsD} (f : α → D) (I : List α → Rho → Mo → Prop)
    (step : ∀ x r ρ M, I (x :: r) ρ M → ∃ ρ', bindT tg (f x) ρ = some ρ' ∧ ∀ N : Rho → Mo → Prop, (∀ ρ M, I r ρ M → N ρ M) → wb { K with nx := N, ct := N, bk := K.nx } ρ' M)
    (fin : ∀ ρ M, I [] ρ M → K.nx ρ M) : ∀ (xs : List α) (ρ : Rho) (M : Mo), I xs ρ M → vFor wb tg K (xs.map f) ρ M
  | [], ρ, M, h => fin ρ M h
  | x :: r, ρ, M, h => by
    obtain ⟨ρ', e, h⟩ := step x r ρ M h
    exact vFor_cons ⟨ρ', e, fun N hN => h N fun a M hi => hN a M (vFor_run f I step fin r a M hi)⟩
/-- a loop that looks at its items, changes nothing, and goes out at the first that is not good -/
theorem vFor_all {α : Type} {wb : EndsD → Rho → Mo → Prop} {tg : Tg} {K : EndsD} (f : α → D) (g : α → Bool) (S : Rho → Prop) {M : Mo}
    (step : ∀ x ρ, S ρ → ∃ ρ', bindT tg (f x) ρ = some ρ' ∧ ∀ N : Rho → Mo → Prop, (g x = true → ∀ ρ, S ρ → N ρ M) → (g x = false → K.rt (.bl false) M) → wb { K with nx := N, ct := N, bk := K.nx } ρ' M)
    : ∀ (xs : List α) (ρ : Rho), S ρ → (xs.all g = true → ∀ ρ, S ρ → K.nx ρ M) → (xs.all g = false → K.rt (.bl false) M) → vFor wb tg K (xs.map f) ρ M
  | [], ρ, h, hT, _ => hT rfl ρ h
  | x :: r, ρ, h, hT, hF => by
    obtain ⟨ρ', e, hs⟩ := step x ρ h
    refine vFor_cons ⟨ρ', e, fun N hN => hs N (fun hx ρ2 h2 => hN ρ2 M (vFor_all f g S step r ρ2 h2 (fun a => hT (by simp [hx, a])) (fun a => hF (by simp [hx, a])))) fun hx => hF (by simp [hx])⟩
/-- a loop over items that are all good, and that changes nothing -/
theorem vFor_keep {α : Type} {wb : EndsD → Rho → Mo → Prop} {tg : Tg} {K : EndsD} (f : α → D) (S : Rho → Prop) {M : Mo} {xs : List α} {ρ : Rho} (h : S ρ)
    (step : ∀ x ∈ xs, ∀ ρ, S ρ → ∃ ρ', bindT tg (f x) ρ = some ρ' ∧ ∀ N : Rho → Mo → Prop, (∀ ρ, S ρ → N ρ M) → wb { K with nx := N, ct := N, bk := K.nx } ρ' M)
    (fin : ∀ ρ, S ρ → K.nx ρ M) : vFor wb tg K (xs.map f) ρ M := by
  induction xs generalizing ρ with
  | nil => exact fin ρ h
  | cons x r ih =>
    obtain ⟨ρ', e, hs⟩ := step x List.mem_cons_self ρ h
    exact vFor_cons ⟨ρ', e, fun N hN => hs N fun ρ2 h2 => hN ρ2 M (ih h2 fun y hy => step y (List.mem_cons_of_mem _ hy))⟩
theorem zipWith_same {α : Type} (f : α → D) (xs : List α) : List.zipWith prD (xs.map f) (xs.map f) = xs.map fun x => prD (f x) (f x) := by
  induction xs with
  | nil => rfl
  | cons x xs ih => simp [ih]
abbrev F_next : Fn := ⟨"_law_next", 2, C_next⟩
abbrev F_stream : Fn := ⟨"_law_stream", 1, C_stream⟩
theorem zipWith_pair {α β : Type} (f : α → D) (g : β → D) (xs : List α) (ys : List β) : List.zipWith prD (xs.map f) (ys.map g) = (xs.zip ys).map fun p => prD (f p.1) (g p.2) := by
  induction xs generalizing ys with
  | nil => rfl
  | cons x xs ih => cases ys with
    | nil => rfl
    | cons y ys => simp [ih]
end Vp
namespace Vp
open PySem PySem.Spec PyProof.Rows L2

/-! ### the defs of a text, put together -/
/-- the def of that name stands at the top -/
def Def {K : PySem.W.Frag} {h : Heap} (_ : K.In h) (mg : Str → Option Value) (x : Str) (st : Stmt) (ps : List Str) : Prop := ∃ f fd, Fun K x x st f fd ∧ mg x = some (.ref f) ∧ PySem.W.keepIn K (.ref f) = true ∧ ∀ us : List Value, us.length = ps.length → bindArgs fd ⟨us, []⟩ = pure (ps.zip us)
theorem def_mk {K : PySem.W.Frag} {h : Heap} {mg : Str → Option Value} (X : K.In h) (G : h.Ns mainGlobals mg) {x : Str} {st : Stmt} {ps : List Str} {f : Addr} {od an : Option Addr} {sl : Array (Option Value)} {oc kV dc pm cd ct : Value}
    (a : PySem.W.nsIn K mainGlobals x = some (some (.ref f))) (l : K.lookup f = some ⟨oc, od, .func (PySem.W.fnOf x x (defArgs st) (defBody st) (defScope st) .none kV dc pm an cd ct), sl⟩) (c : PySem.W.codeIn K cd x = true) (k : PySem.W.keepIn K (.ref f) = true)
    (hb : ∀ (kV doc pm : Value) (an : Option Addr) (cdv ct : Value) (us : List Value), us.length = ps.length → bindArgs (PySem.W.fnOf x x (defArgs st) (defBody st) (defScope st) .none kV doc pm an cdv ct) ⟨us, []⟩ = pure (ps.zip us)) : Def X mg x st ps :=
  let F := fun_mk (st := st) l c k
  ⟨f, _, F, PySem.W.mg_of X G a, k, hb kV dc pm an cd ct⟩
def Has (P : Program) (w : World) (K : PySem.W.Frag) (mg : Str → Option Value) (base : Heap) (k : Nat) (g : Fn) : Prop := ∃ f fd ps, FnOk P w K mg base (L2.CX P w) k f fd ps (spOf K g.n g.con) ∧ mg g.name = some (.ref f) ∧ PySem.W.keepIn K (.ref f) = true ∧ Binds K fd ps []
section
variable {P : Program} {w : World} {K : PySem.W.Frag} {mg : Str → Option Value} {base : Heap} {k : Nat}
theorem Has.up {j : Nat} {g : Fn} (h : Has P w K mg base j g) (hk : j ≤ k) : Has P w K mg base k g :=
  let ⟨f, fd, ps, F, a, b, c⟩ := h
  ⟨f, fd, ps, F.mono hk, a, b, c⟩
theorem fns_nil : Fns P w K mg base k [] := fun _ h => nomatch h
theorem fns_cons {j : Nat} {g : Fn} {Γ : List Fn} (h : Has P w K mg base j g) (hk : j ≤ k) (t : Fns P w K mg base k Γ) : Fns P w K mg base k (g :: Γ) := fun g' hg => by
  rcases List.mem_cons.mp hg with e | hg
  · subst e; exact h.up hk
  · exact t g' hg
theorem bis_nil : ∀ x ∈ ([] : List Str), mg x = none := fun _ h => nomatch h
theorem bis_cons {a : Str} {r : List Str} (h : mg a = none) (t : ∀ x ∈ r, mg x = none) : ∀ x ∈ a :: r, mg x = none := fun x hx => by
  rcases List.mem_cons.mp hx with e | hx
  · subst e; exact h
  · exact t x hx
theorem has_of {h : Heap} {X : K.In h} {x : Str} {st : Stmt} {N ps : List Str} {Γ : List Fn} {bis : List Str} {b : Ss} {con : Con} {n : Nat} (D : Def X mg x st ps) (sc : FnScope N ps (defScope st)) (hn : n = ps.length)
    (hb : isSs (mkSC N (defScope st) Γ bis) b (defBody st) = true) (hG : Fns P w K mg base k Γ) (hbi : ∀ x ∈ bis, mg x = none)
    (hc : ∀ ds M Q X, ds.length = n → con ds M Q X → vSs Γ b (endsOf Q X) (startD N.length ds) M) : Has P w K mg base (k + 1) ⟨x, n, con⟩ :=
  let ⟨f, fd, F, a, kp, bd⟩ := D
  ⟨f, fd, ps, def_ok F sc hn hb hG hbi hc, a, kp, .all bd⟩
/-- the law's own def: its object is one, whatever the base -/
theorem law_mk {h : Heap} {X : K.In h} {x : Str} {st : Stmt} {N : List Str} {p : Str} {Γ : List Fn} {bis : List Str} {b : Ss} {con : Con} {fa : Addr} (D : Def X mg x st [p]) (hfa : mg x = some (.ref fa)) (sc : FnScope N [p] (defScope st))
    (hb : isSs (mkSC N (defScope st) Γ bis) b (defBody st) = true) (hbi : ∀ x ∈ bis, mg x = none)
    (hc : ∀ ds M Q X, ds.length = 1 → con ds M Q X → vSs Γ b (endsOf Q X) (startD N.length ds) M)
    (hG : ∀ base : Heap, K.In base → base.Ns mainGlobals mg → Fns P w K mg base k Γ) :
    ∃ fd : FuncData, (∀ (s : Shared) (u : Value), BindsTo s fd ⟨[u], []⟩ [(p, u)]) ∧ ∀ base : Heap, K.In base → base.Ns mainGlobals mg → FnOk P w K mg base (L2.CX P w) (k + 1) fa fd [p] (spOf K 1 con) := by
  obtain ⟨f, fd, F, a, kp, bd⟩ := D
  have e := hfa.symm.trans a
  cases e
  exact ⟨fd, fun s u => .of_eq (bd [u] rfl), fun base hI hNs => def_ok F sc rfl hb (hG base hI hNs) hbi hc⟩
end
end Vp
namespace Vp
open PySem PySem.Spec PyProof.Rows L2
theorem cx_false {P : Program} {w : World} {outer : List Env} {H : Hp} {s : Shared} {u : Value} {s' : Shared} (h : L2.CX P w outer H s (fun _ _ _ => False) u s') : False := by
  obtain ⟨a, B, H', cls, d, _, _, _, _, _, _, _, h⟩ := h
  exact h
end Vp
namespace K19
open PySem PySem.Spec PyProof.Rows L2 Vp
def topS (i : Nat) : Stmt := PySem.Challenge.pw_sureplan_k19_common_box.main.body.getD i (.Pass ⟨0, 0, 0, 0⟩)
/-- box_of_state: slots 0:state 1:holding 2:values 3:value; callees none; builtins tuple -/
def b_box_of_state_1 : Ss := .cons (.ret (.tup (.cons (.var 1) (.cons (.bi .tuple (.cons (.comp false (.tup (.cons (.var 3) (.cons (.var 3) .nil))) (.nm 3) (.seq (.var 2)) .none) .nil)) .nil)))) .nil
def b_box_of_state : Ss := .cons (.asg (.tup (.cons (.nm 1) (.cons (.nm 2) .nil))) (.var 0)) b_box_of_state_1
abbrev N_box_of_state : List Str := ["state", "holding", "values", "value"]
abbrev st_box_of_state : Stmt := topS 1
theorem sc_box_of_state : FnScope N_box_of_state ["state"] (defScope st_box_of_state) := ⟨rfl, rfl, rfl, by decide +kernel, rfl, by decide +kernel, by decide +kernel⟩
abbrev f_box_of_state : List Str := []
abbrev z_box_of_state : List Str := ["tuple"]

/-- common_box: slots 0:first 1:second 2:facts 3:entry 4:other 5:spans 6:low 7:high 8:other_low 9:other_high 10:span; callees none; builtins max min tuple zip -/
def b_common_box_1 : Ss := .cons (.ret .cnon) .nil
def b_common_box_2 : Ss := .cons (.app (.var 2) (.ite (.cmp .Is (.var 3) .cnon) (.var 4) (.var 3))) .nil
def b_common_box_3 : Ss := .cons (.ifs (.and (.cmp .IsNot (.var 3) .cnon) (.and (.cmp .IsNot (.var 4) .cnon) (.cmp .NotEq (.var 3) (.var 4)))) b_common_box_1 .nil) b_common_box_2
def b_common_box_4 : Ss := .cons (.ret .cnon) .nil
def b_common_box_5 : Ss := .cons (.app (.var 5) (.var 10)) .nil
def b_common_box_6 : Ss := .cons (.ifs (.cmp .Gt (.ix (.var 10) (.cint 0)) (.ix (.var 10) (.cint 1))) b_common_box_4 .nil) b_common_box_5
def b_common_box_7 : Ss := .cons (.asg (.nm 10) (.tup (.cons (.bi .max (.cons (.var 6) (.cons (.var 8) .nil))) (.cons (.bi .min (.cons (.var 7) (.cons (.var 9) .nil))) .nil)))) b_common_box_6
def b_common_box_8 : Ss := .cons (.ret (.tup (.cons (.bi .tuple (.cons (.var 2) .nil)) (.cons (.bi .tuple (.cons (.var 5) .nil)) .nil)))) .nil
def b_common_box_9 : Ss := .cons (.for (.tup (.cons (.tup (.cons (.nm 6) (.cons (.nm 7) .nil))) (.cons (.tup (.cons (.nm 8) (.cons (.nm 9) .nil))) .nil))) (.zip (.ix (.var 0) (.cint 1)) (.ix (.var 1) (.cint 1))) b_common_box_7) b_common_box_8
def b_common_box_10 : Ss := .cons (.asg (.nm 5) (.lst true .nil)) b_common_box_9
def b_common_box_11 : Ss := .cons (.for (.tup (.cons (.nm 3) (.cons (.nm 4) .nil))) (.zip (.ix (.var 0) (.cint 0)) (.ix (.var 1) (.cint 0))) b_common_box_3) b_common_box_10
def b_common_box : Ss := .cons (.asg (.nm 2) (.lst true .nil)) b_common_box_11
abbrev N_common_box : List Str := ["first", "second", "facts", "entry", "other", "spans", "low", "high", "other_low", "other_high", "span"]
abbrev st_common_box : Stmt := topS 2
theorem sc_common_box : FnScope N_common_box ["first", "second"] (defScope st_common_box) := ⟨rfl, rfl, rfl, by decide +kernel, rfl, by decide +kernel, by decide +kernel⟩
abbrev f_common_box : List Str := []
abbrev z_common_box : List Str := ["max", "min", "tuple", "zip"]

/-- lies_in: slots 0:first 1:second 2:entry 3:other 4:low 5:high 6:other_low 7:other_high; callees none; builtins zip -/
def b_lies_in_1 : Ss := .cons (.ret (.cbl false)) .nil
def b_lies_in_2 : Ss := .cons (.ifs (.and (.cmp .IsNot (.var 3) .cnon) (.cmp .NotEq (.var 2) (.var 3))) b_lies_in_1 .nil) .nil
def b_lies_in_3 : Ss := .cons (.ret (.cbl false)) .nil
def b_lies_in_4 : Ss := .cons (.ifs (.or (.cmp .Lt (.var 4) (.var 6)) (.cmp .Gt (.var 5) (.var 7))) b_lies_in_3 .nil) .nil
def b_lies_in_5 : Ss := .cons (.ret (.cbl true)) .nil
def b_lies_in_6 : Ss := .cons (.for (.tup (.cons (.tup (.cons (.nm 4) (.cons (.nm 5) .nil))) (.cons (.tup (.cons (.nm 6) (.cons (.nm 7) .nil))) .nil))) (.zip (.ix (.var 0) (.cint 1)) (.ix (.var 1) (.cint 1))) b_lies_in_4) b_lies_in_5
def b_lies_in : Ss := .cons (.for (.tup (.cons (.nm 2) (.cons (.nm 3) .nil))) (.zip (.ix (.var 0) (.cint 0)) (.ix (.var 1) (.cint 0))) b_lies_in_2) b_lies_in_6
abbrev N_lies_in : List Str := ["first", "second", "entry", "other", "low", "high", "other_low", "other_high"]
abbrev st_lies_in : Stmt := topS 3
theorem sc_lies_in : FnScope N_lies_in ["first", "second"] (defScope st_lies_in) := ⟨rfl, rfl, rfl, by decide +kernel, rfl, by decide +kernel, by decide +kernel⟩
abbrev f_lies_in : List Str := []
abbrev z_lies_in : List Str := ["zip"]

/-- in_box: slots 0:state 1:box; callees lies_in box_of_state; builtins none -/
def b_in_box : Ss := .cons (.ret (.call 0 (.cons (.call 1 (.cons (.var 0) .nil)) (.cons (.var 1) .nil)))) .nil
abbrev N_in_box : List Str := ["state", "box"]
abbrev st_in_box : Stmt := topS 4
theorem sc_in_box : FnScope N_in_box ["state", "box"] (defScope st_in_box) := ⟨rfl, rfl, rfl, by decide +kernel, rfl, by decide +kernel, by decide +kernel⟩
abbrev f_in_box : List Str := ["lies_in", "box_of_state"]
abbrev z_in_box : List Str := []

/-- _law_stream: slots 0:script; callees none; builtins list -/
abbrev N_law_stream : List Str := ["script"]
abbrev st_law_stream : Stmt := topS 6
theorem sc_law_stream : FnScope N_law_stream ["script"] (defScope st_law_stream) := ⟨rfl, rfl, rfl, by decide +kernel, rfl, by decide +kernel, by decide +kernel⟩
abbrev f_law_stream : List Str := []
abbrev z_law_stream : List Str := ["list"]

/-- _law_next: slots 0:stream 1:many 2:k 3:cell 4:digit; callees none; builtins abs int len -/
abbrev N_law_next : List Str := ["stream", "many", "k", "cell", "digit"]
abbrev st_law_next : Stmt := topS 7
theorem sc_law_next : FnScope N_law_next ["stream", "many"] (defScope st_law_next) := ⟨rfl, rfl, rfl, by decide +kernel, rfl, by decide +kernel, by decide +kernel⟩
abbrev f_law_next : List Str := []
abbrev z_law_next : List Str := ["abs", "int", "len"]

/-- _law_is_integer: slots 0:actual; callees none; builtins bool int isinstance -/
def b_law_is_integer : Ss := .cons (.ret (.and (.bi .isinst (.cons (.var 0) (.cons (.cty "int") .nil))) (.not (.bi .isinst (.cons (.var 0) (.cons (.cty "bool") .nil)))))) .nil
abbrev N_law_is_integer : List Str := ["actual"]
abbrev st_law_is_integer : Stmt := topS 8
theorem sc_law_is_integer : FnScope N_law_is_integer ["actual"] (defScope st_law_is_integer) := ⟨rfl, rfl, rfl, by decide +kernel, rfl, by decide +kernel, by decide +kernel⟩
abbrev f_law_is_integer : List Str := []
abbrev z_law_is_integer : List Str := ["bool", "int", "isinstance"]

/-- _law_is_span: slots 0:actual; callees _law_is_integer; builtins isinstance len tuple -/
def b_law_is_span_1 : Ss := .cons (.ret (.cbl false)) .nil
def b_law_is_span_2 : Ss := .cons (.ret (.and (.call 0 (.cons (.ix (.var 0) (.cint 0)) .nil)) (.call 0 (.cons (.ix (.var 0) (.cint 1)) .nil)))) .nil
def b_law_is_span : Ss := .cons (.ifs (.or (.not (.tr (.bi .isinst (.cons (.var 0) (.cons (.cty "tuple") .nil))))) (.cmp .NotEq (.bi .len (.cons (.var 0) .nil)) (.cint 2))) b_law_is_span_1 .nil) b_law_is_span_2
abbrev N_law_is_span : List Str := ["actual"]
abbrev st_law_is_span : Stmt := topS 9
theorem sc_law_is_span : FnScope N_law_is_span ["actual"] (defScope st_law_is_span) := ⟨rfl, rfl, rfl, by decide +kernel, rfl, by decide +kernel, by decide +kernel⟩
abbrev f_law_is_span : List Str := ["_law_is_integer"]
abbrev z_law_is_span : List Str := ["isinstance", "len", "tuple"]

/-- _law_is_box: slots 0:actual 1:facts 2:numbers 3:entry 4:span; callees _law_is_span; builtins bool isinstance len tuple -/
def b_law_is_box_1 : Ss := .cons (.ret (.cbl false)) .nil
def b_law_is_box_2 : Ss := .cons (.ret (.cbl false)) .nil
def b_law_is_box_3 : Ss := .cons (.ret (.cbl false)) .nil
def b_law_is_box_4 : Ss := .cons (.ret (.cbl false)) .nil
def b_law_is_box_5 : Ss := .cons (.ifs (.and (.cmp .IsNot (.var 3) .cnon) (.not (.tr (.bi .isinst (.cons (.var 3) (.cons (.cty "bool") .nil)))))) b_law_is_box_4 .nil) .nil
def b_law_is_box_6 : Ss := .cons (.ret (.cbl false)) .nil
def b_law_is_box_7 : Ss := .cons (.ifs (.or (.not (.tr (.call 0 (.cons (.var 4) .nil)))) (.cmp .Gt (.ix (.var 4) (.cint 0)) (.ix (.var 4) (.cint 1)))) b_law_is_box_6 .nil) .nil
def b_law_is_box_8 : Ss := .cons (.ret (.cbl true)) .nil
def b_law_is_box_9 : Ss := .cons (.for (.nm 4) (.seq (.ix (.var 0) (.cint 1))) b_law_is_box_7) b_law_is_box_8
def b_law_is_box_10 : Ss := .cons (.for (.nm 3) (.seq (.ix (.var 0) (.cint 0))) b_law_is_box_5) b_law_is_box_9
def b_law_is_box_11 : Ss := .cons (.ifs (.or (.cmp .NotEq (.bi .len (.cons (.ix (.var 0) (.cint 0)) .nil)) (.var 1)) (.cmp .NotEq (.bi .len (.cons (.ix (.var 0) (.cint 1)) .nil)) (.var 2))) b_law_is_box_3 .nil) b_law_is_box_10
def b_law_is_box_12 : Ss := .cons (.ifs (.or (.not (.tr (.bi .isinst (.cons (.ix (.var 0) (.cint 0)) (.cons (.cty "tuple") .nil))))) (.not (.tr (.bi .isinst (.cons (.ix (.var 0) (.cint 1)) (.cons (.cty "tuple") .nil)))))) b_law_is_box_2 .nil) b_law_is_box_11
def b_law_is_box : Ss := .cons (.ifs (.or (.not (.tr (.bi .isinst (.cons (.var 0) (.cons (.cty "tuple") .nil))))) (.cmp .NotEq (.bi .len (.cons (.var 0) .nil)) (.cint 2))) b_law_is_box_1 .nil) b_law_is_box_12
abbrev N_law_is_box : List Str := ["actual", "facts", "numbers", "entry", "span"]
abbrev st_law_is_box : Stmt := topS 10
theorem sc_law_is_box : FnScope N_law_is_box ["actual", "facts", "numbers"] (defScope st_law_is_box) := ⟨rfl, rfl, rfl, by decide +kernel, rfl, by decide +kernel, by decide +kernel⟩
abbrev f_law_is_box : List Str := ["_law_is_span"]
abbrev z_law_is_box : List Str := ["bool", "isinstance", "len", "tuple"]

/-- _law_box_same: slots 0:actual 1:due 2:one 3:other; callees _law_is_box; builtins len zip -/
def b_law_box_same_1 : Ss := .cons (.ret (.cmp .Is (.var 0) .cnon)) .nil
def b_law_box_same_2 : Ss := .cons (.ret (.cbl false)) .nil
def b_law_box_same_3 : Ss := .cons (.ret (.cbl false)) .nil
def b_law_box_same_4 : Ss := .cons (.ifs (.or (.cmp .NotEq (.cmp .Is (.var 2) .cnon) (.cmp .Is (.var 3) .cnon)) (.cmp .NotEq (.var 2) (.var 3))) b_law_box_same_3 .nil) .nil
def b_law_box_same_5 : Ss := .cons (.ret (.cbl false)) .nil
def b_law_box_same_6 : Ss := .cons (.ifs (.or (.cmp .NotEq (.ix (.var 2) (.cint 0)) (.ix (.var 3) (.cint 0))) (.cmp .NotEq (.ix (.var 2) (.cint 1)) (.ix (.var 3) (.cint 1)))) b_law_box_same_5 .nil) .nil
def b_law_box_same_7 : Ss := .cons (.ret (.cbl true)) .nil
def b_law_box_same_8 : Ss := .cons (.for (.tup (.cons (.nm 2) (.cons (.nm 3) .nil))) (.zip (.ix (.var 0) (.cint 1)) (.ix (.var 1) (.cint 1))) b_law_box_same_6) b_law_box_same_7
def b_law_box_same_9 : Ss := .cons (.for (.tup (.cons (.nm 2) (.cons (.nm 3) .nil))) (.zip (.ix (.var 0) (.cint 0)) (.ix (.var 1) (.cint 0))) b_law_box_same_4) b_law_box_same_8
def b_law_box_same_10 : Ss := .cons (.ifs (.not (.tr (.call 0 (.cons (.var 0) (.cons (.bi .len (.cons (.ix (.var 1) (.cint 0)) .nil)) (.cons (.bi .len (.cons (.ix (.var 1) (.cint 1)) .nil)) .nil)))))) b_law_box_same_2 .nil) b_law_box_same_9
def b_law_box_same : Ss := .cons (.ifs (.cmp .Is (.var 1) .cnon) b_law_box_same_1 .nil) b_law_box_same_10
abbrev N_law_box_same : List Str := ["actual", "due", "one", "other"]
abbrev st_law_box_same : Stmt := topS 11
theorem sc_law_box_same : FnScope N_law_box_same ["actual", "due"] (defScope st_law_box_same) := ⟨rfl, rfl, rfl, by decide +kernel, rfl, by decide +kernel, by decide +kernel⟩
abbrev f_law_box_same : List Str := ["_law_is_box"]
abbrev z_law_box_same : List Str := ["len", "zip"]

/-- _law_free_span: slots 0:stream 1:low 2:high 3:first; callees _law_next; builtins none -/
def b_law_free_span_1 : Ss := .cons (.ret (.tup (.cons (.var 3) (.cons (.bin .Add (.var 3) (.call 0 (.cons (.var 0) (.cons (.bin .Add (.bin .Sub (.var 2) (.var 3)) (.cint 1)) .nil)))) .nil)))) .nil
def b_law_free_span : Ss := .cons (.asg (.nm 3) (.bin .Add (.var 1) (.call 0 (.cons (.var 0) (.cons (.bin .Add (.bin .Sub (.var 2) (.var 1)) (.cint 1)) .nil))))) b_law_free_span_1
abbrev N_law_free_span : List Str := ["stream", "low", "high", "first"]
abbrev st_law_free_span : Stmt := topS 12
theorem sc_law_free_span : FnScope N_law_free_span ["stream", "low", "high"] (defScope st_law_free_span) := ⟨rfl, rfl, rfl, by decide +kernel, rfl, by decide +kernel, by decide +kernel⟩
abbrev f_law_free_span : List Str := ["_law_next"]
abbrev z_law_free_span : List Str := []

/-- _law_free_box: slots 0:stream 1:facts 2:spans 3:entries 4:k 5:told 6:low 7:high; callees _law_next _law_free_span; builtins range tuple -/
def b_law_free_box_1 : Ss := .cons (.app (.var 5) (.call 1 (.cons (.var 0) (.cons (.var 6) (.cons (.var 7) .nil))))) .nil
def b_law_free_box_2 : Ss := .cons (.ret (.tup (.cons (.var 3) (.cons (.bi .tuple (.cons (.var 5) .nil)) .nil)))) .nil
def b_law_free_box_3 : Ss := .cons (.for (.tup (.cons (.nm 6) (.cons (.nm 7) .nil))) (.seq (.var 2)) b_law_free_box_1) b_law_free_box_2
def b_law_free_box_4 : Ss := .cons (.asg (.nm 5) (.lst true .nil)) b_law_free_box_3
def b_law_free_box : Ss := .cons (.asg (.nm 3) (.bi .tuple (.cons (.comp false (.ix (.lst false (.cons .cnon (.cons (.cbl true) (.cons (.cbl false) (.cons .cnon .nil))))) (.call 0 (.cons (.var 0) (.cons (.cint 4) .nil)))) (.nm 4) (.range1 (.var 1)) .none) .nil))) b_law_free_box_4
abbrev N_law_free_box : List Str := ["stream", "facts", "spans", "entries", "k", "told", "low", "high"]
abbrev st_law_free_box : Stmt := topS 13
theorem sc_law_free_box : FnScope N_law_free_box ["stream", "facts", "spans"] (defScope st_law_free_box) := ⟨rfl, rfl, rfl, by decide +kernel, rfl, by decide +kernel, by decide +kernel⟩
abbrev f_law_free_box : List Str := ["_law_next", "_law_free_span"]
abbrev z_law_free_box : List Str := ["range", "tuple"]

/-- _law_ranges: slots 0:stream 1:many 2:spans 3:k 4:low 5:wide; callees _law_next; builtins range -/
def b_law_ranges_1 : Ss := .cons (.asg (.nm 4) (.bin .Sub (.call 0 (.cons (.var 0) (.cons (.cint 2000001) .nil))) (.cint 1000000))) .nil
def b_law_ranges_2 : Ss := .cons (.asg (.nm 5) (.call 0 (.cons (.var 0) (.cons (.cint 201) .nil)))) .nil
def b_law_ranges_3 : Ss := .cons (.app (.var 2) (.tup (.cons (.var 4) (.cons (.bin .Add (.var 4) (.var 5)) .nil)))) .nil
def b_law_ranges_4 : Ss := .cons (.ifs (.cmp .Eq (.call 0 (.cons (.var 0) (.cons (.cint 4) .nil))) (.cint 1)) b_law_ranges_2 .nil) b_law_ranges_3
def b_law_ranges_5 : Ss := .cons (.asg (.nm 5) (.call 0 (.cons (.var 0) (.cons (.cint 5) .nil)))) b_law_ranges_4
def b_law_ranges_6 : Ss := .cons (.ifs (.cmp .Eq (.call 0 (.cons (.var 0) (.cons (.cint 4) .nil))) (.cint 1)) b_law_ranges_1 .nil) b_law_ranges_5
def b_law_ranges_7 : Ss := .cons (.asg (.nm 4) (.bin .Sub (.call 0 (.cons (.var 0) (.cons (.cint 7) .nil))) (.cint 3))) b_law_ranges_6
def b_law_ranges_8 : Ss := .cons (.ret (.var 2)) .nil
def b_law_ranges_9 : Ss := .frz 2 b_law_ranges_8
def b_law_ranges_10 : Ss := .cons (.for (.nm 3) (.range1 (.var 1)) b_law_ranges_7) b_law_ranges_9
def b_law_ranges : Ss := .cons (.asg (.nm 2) (.lst true .nil)) b_law_ranges_10
abbrev N_law_ranges : List Str := ["stream", "many", "spans", "k", "low", "wide"]
abbrev st_law_ranges : Stmt := topS 14
theorem sc_law_ranges : FnScope N_law_ranges ["stream", "many"] (defScope st_law_ranges) := ⟨rfl, rfl, rfl, by decide +kernel, rfl, by decide +kernel, by decide +kernel⟩
abbrev f_law_ranges : List Str := ["_law_next"]
abbrev z_law_ranges : List Str := ["range"]

/-- _law_sizes: slots 0:stream 1:facts 2:numbers; callees _law_next; builtins none -/
def b_law_sizes_1 : Ss := .cons (.asg (.nm 2) (.call 0 (.cons (.var 0) (.cons (.cint 31) .nil)))) .nil
def b_law_sizes_2 : Ss := .cons (.asg (.nm 1) (.call 0 (.cons (.var 0) (.cons (.cint 121) .nil)))) b_law_sizes_1
def b_law_sizes_3 : Ss := .cons (.ret (.tup (.cons (.var 1) (.cons (.var 2) .nil)))) .nil
def b_law_sizes_4 : Ss := .cons (.ifs (.cmp .Eq (.call 0 (.cons (.var 0) (.cons (.cint 8) .nil))) (.cint 1)) b_law_sizes_2 .nil) b_law_sizes_3
def b_law_sizes_5 : Ss := .cons (.asg (.nm 2) (.call 0 (.cons (.var 0) (.cons (.cint 4) .nil)))) b_law_sizes_4
def b_law_sizes : Ss := .cons (.asg (.nm 1) (.call 0 (.cons (.var 0) (.cons (.cint 5) .nil)))) b_law_sizes_5
abbrev N_law_sizes : List Str := ["stream", "facts", "numbers"]
abbrev st_law_sizes : Stmt := topS 15
theorem sc_law_sizes : FnScope N_law_sizes ["stream"] (defScope st_law_sizes) := ⟨rfl, rfl, rfl, by decide +kernel, rfl, by decide +kernel, by decide +kernel⟩
abbrev f_law_sizes : List Str := ["_law_next"]
abbrev z_law_sizes : List Str := []

/-- _law_near: slots 0:stream 1:box 2:spans 3:entries 4:entry 5:pick 6:told 7:span 8:wide 9:low 10:high; callees _law_next; builtins max min tuple zip -/
def b_law_near_1 : Ss := .cons (.asg (.nm 6) (.ix (.lst false (.cons .cnon (.cons (.cbl true) (.cons (.cbl false) .nil)))) (.var 5))) .nil
def b_law_near_2 : Ss := .cons (.app (.var 3) (.var 6)) .nil
def b_law_near_3 : Ss := .cons (.ifs (.cmp .Lt (.var 5) (.cint 3)) b_law_near_1 .nil) b_law_near_2
def b_law_near_4 : Ss := .cons (.asg (.nm 6) (.var 4)) b_law_near_3
def b_law_near_5 : Ss := .cons (.asg (.nm 5) (.call 0 (.cons (.var 0) (.cons (.cint 12) .nil)))) b_law_near_4
def b_law_near_6 : Ss := .cons (.app (.var 6) (.tup (.cons (.var 9) (.cons (.var 10) .nil)))) .nil
def b_law_near_7 : Ss := .cons (.asg (.nm 10) (.bi .max (.cons (.var 9) (.cons (.bi .min (.cons (.ix (.var 8) (.cint 1)) (.cons (.bin .Sub (.bin .Add (.ix (.var 7) (.cint 1)) (.bin .FloorDiv (.var 5) (.cint 3))) (.cint 1)) .nil))) .nil)))) b_law_near_6
def b_law_near_8 : Ss := .cons (.asg (.nm 9) (.bi .max (.cons (.ix (.var 8) (.cint 0)) (.cons (.bi .min (.cons (.ix (.var 8) (.cint 1)) (.cons (.bin .Sub (.bin .Add (.ix (.var 7) (.cint 0)) (.bin .Mod (.var 5) (.cint 3))) (.cint 1)) .nil))) .nil)))) b_law_near_7
def b_law_near_9 : Ss := .cons (.asg (.nm 5) (.call 0 (.cons (.var 0) (.cons (.cint 8) .nil)))) b_law_near_8
def b_law_near_10 : Ss := .cons (.ret (.tup (.cons (.bi .tuple (.cons (.var 3) .nil)) (.cons (.bi .tuple (.cons (.var 6) .nil)) .nil)))) .nil
def b_law_near_11 : Ss := .cons (.for (.tup (.cons (.nm 7) (.cons (.nm 8) .nil))) (.zip (.ix (.var 1) (.cint 1)) (.var 2)) b_law_near_9) b_law_near_10
def b_law_near_12 : Ss := .cons (.asg (.nm 6) (.lst true .nil)) b_law_near_11
def b_law_near_13 : Ss := .cons (.for (.nm 4) (.seq (.ix (.var 1) (.cint 0))) b_law_near_5) b_law_near_12
def b_law_near : Ss := .cons (.asg (.nm 3) (.lst true .nil)) b_law_near_13
abbrev N_law_near : List Str := ["stream", "box", "spans", "entries", "entry", "pick", "told", "span", "wide", "low", "high"]
abbrev st_law_near : Stmt := topS 16
theorem sc_law_near : FnScope N_law_near ["stream", "box", "spans"] (defScope st_law_near) := ⟨rfl, rfl, rfl, by decide +kernel, rfl, by decide +kernel, by decide +kernel⟩
abbrev f_law_near : List Str := ["_law_next"]
abbrev z_law_near : List Str := ["max", "min", "tuple", "zip"]

/-- _law_due: slots 0:first 1:second 2:entries 3:one 4:other 5:spans; callees none; builtins max min tuple zip -/
def b_law_due_1 : Ss := .cons (.ret .cnon) .nil
def b_law_due_2 : Ss := .cons (.app (.var 2) (.ite (.cmp .Is (.var 3) .cnon) (.var 4) (.var 3))) .nil
def b_law_due_3 : Ss := .cons (.ifs (.and (.cmp .IsNot (.var 3) .cnon) (.and (.cmp .IsNot (.var 4) .cnon) (.cmp .NotEq (.var 3) (.var 4)))) b_law_due_1 .nil) b_law_due_2
def b_law_due_4 : Ss := .cons (.ret .cnon) .nil
def b_law_due_5 : Ss := .cons (.app (.var 5) (.tup (.cons (.bi .max (.cons (.ix (.var 3) (.cint 0)) (.cons (.ix (.var 4) (.cint 0)) .nil))) (.cons (.bi .min (.cons (.ix (.var 3) (.cint 1)) (.cons (.ix (.var 4) (.cint 1)) .nil))) .nil)))) .nil
def b_law_due_6 : Ss := .cons (.ifs (.cmp .Gt (.bi .max (.cons (.ix (.var 3) (.cint 0)) (.cons (.ix (.var 4) (.cint 0)) .nil))) (.bi .min (.cons (.ix (.var 3) (.cint 1)) (.cons (.ix (.var 4) (.cint 1)) .nil)))) b_law_due_4 .nil) b_law_due_5
def b_law_due_7 : Ss := .cons (.ret (.tup (.cons (.bi .tuple (.cons (.var 2) .nil)) (.cons (.bi .tuple (.cons (.var 5) .nil)) .nil)))) .nil
def b_law_due_8 : Ss := .cons (.for (.tup (.cons (.nm 3) (.cons (.nm 4) .nil))) (.zip (.ix (.var 0) (.cint 1)) (.ix (.var 1) (.cint 1))) b_law_due_6) b_law_due_7
def b_law_due_9 : Ss := .cons (.asg (.nm 5) (.lst true .nil)) b_law_due_8
def b_law_due_10 : Ss := .cons (.for (.tup (.cons (.nm 3) (.cons (.nm 4) .nil))) (.zip (.ix (.var 0) (.cint 0)) (.ix (.var 1) (.cint 0))) b_law_due_3) b_law_due_9
def b_law_due : Ss := .cons (.asg (.nm 2) (.lst true .nil)) b_law_due_10
abbrev N_law_due : List Str := ["first", "second", "entries", "one", "other", "spans"]
abbrev st_law_due : Stmt := topS 17
theorem sc_law_due : FnScope N_law_due ["first", "second"] (defScope st_law_due) := ⟨rfl, rfl, rfl, by decide +kernel, rfl, by decide +kernel, by decide +kernel⟩
abbrev f_law_due : List Str := []
abbrev z_law_due : List Str := ["max", "min", "tuple", "zip"]

/-- _law_state: slots 0:stream 1:box 2:holding 3:entry 4:told 5:values 6:low 7:high; callees _law_next; builtins tuple -/
def b_law_state_1 : Ss := .cons (.asg (.nm 4) (.var 3)) .nil
def b_law_state_2 : Ss := .cons (.app (.var 2) (.var 4)) .nil
def b_law_state_3 : Ss := .cons (.ifs (.cmp .IsNot (.var 3) .cnon) b_law_state_1 .nil) b_law_state_2
def b_law_state_4 : Ss := .cons (.asg (.nm 4) (.cmp .Eq (.call 0 (.cons (.var 0) (.cons (.cint 2) .nil))) (.cint 1))) b_law_state_3
def b_law_state_5 : Ss := .cons (.ret (.tup (.cons (.bi .tuple (.cons (.var 2) .nil)) (.cons (.bi .tuple (.cons (.var 5) .nil)) .nil)))) .nil
def b_law_state_6 : Ss := .cons (.setC 5 (.comp false (.bin .Add (.var 6) (.call 0 (.cons (.var 0) (.cons (.bin .Add (.bin .Sub (.var 7) (.var 6)) (.cint 1)) .nil)))) (.tup (.cons (.nm 6) (.cons (.nm 7) .nil))) (.seq (.ix (.var 1) (.cint 1))) .none)) b_law_state_5
def b_law_state_7 : Ss := .cons (.for (.nm 3) (.seq (.ix (.var 1) (.cint 0))) b_law_state_4) b_law_state_6
def b_law_state : Ss := .cons (.asg (.nm 2) (.lst true .nil)) b_law_state_7
abbrev N_law_state : List Str := ["stream", "box", "holding", "entry", "told", "values", "low", "high"]
abbrev st_law_state : Stmt := topS 18
theorem sc_law_state : FnScope N_law_state ["stream", "box"] (defScope st_law_state) := ⟨rfl, rfl, rfl, by decide +kernel, rfl, by decide +kernel, by decide +kernel⟩
abbrev f_law_state : List Str := ["_law_next"]
abbrev z_law_state : List Str := ["tuple"]

/-- _law_in: slots 0:state 1:box 2:held 3:entry 4:value 5:span; callees none; builtins zip -/
def b_law_in_1 : Ss := .cons (.ret (.cbl false)) .nil
def b_law_in_2 : Ss := .cons (.ifs (.and (.cmp .IsNot (.var 3) .cnon) (.cmp .NotEq (.var 2) (.var 3))) b_law_in_1 .nil) .nil
def b_law_in_3 : Ss := .cons (.ret (.cbl false)) .nil
def b_law_in_4 : Ss := .cons (.ifs (.or (.cmp .Lt (.var 4) (.ix (.var 5) (.cint 0))) (.cmp .Lt (.ix (.var 5) (.cint 1)) (.var 4))) b_law_in_3 .nil) .nil
def b_law_in_5 : Ss := .cons (.ret (.cbl true)) .nil
def b_law_in_6 : Ss := .cons (.for (.tup (.cons (.nm 4) (.cons (.nm 5) .nil))) (.zip (.ix (.var 0) (.cint 1)) (.ix (.var 1) (.cint 1))) b_law_in_4) b_law_in_5
def b_law_in : Ss := .cons (.for (.tup (.cons (.nm 2) (.cons (.nm 3) .nil))) (.zip (.ix (.var 0) (.cint 0)) (.ix (.var 1) (.cint 0))) b_law_in_2) b_law_in_6
abbrev N_law_in : List Str := ["state", "box", "held", "entry", "value", "span"]
abbrev st_law_in : Stmt := topS 19
theorem sc_law_in : FnScope N_law_in ["state", "box"] (defScope st_law_in) := ⟨rfl, rfl, rfl, by decide +kernel, rfl, by decide +kernel, by decide +kernel⟩
abbrev f_law_in : List Str := []
abbrev z_law_in : List Str := ["zip"]

/-- law: slots 0:script 1:stream 2:near 3:facts 4:numbers 5:ranges 6:first 7:second 8:state 9:due 10:told 11:actual; callees _law_stream _law_next _law_sizes _law_ranges _law_free_box _law_near _law_state _law_due _law_box_same common_box in_box _law_in; builtins bool isinstance -/
def b_law_1 : Ss := .cons (.asg (.nm 7) (.call 5 (.cons (.var 1) (.cons (.var 6) (.cons (.var 5) .nil))))) .nil
def b_law_2 : Ss := .cons (.ret (.cbl false)) .nil
def b_law_3 : Ss := .cons (.ret (.cbl false)) .nil
def b_law_4 : Ss := .cons (.ret (.cbl false)) .nil
def b_law_5 : Ss := .cons (.ret (.cbl false)) .nil
def b_law_6 : Ss := .cons (.ret (.cbl true)) .nil
def b_law_7 : Ss := .cons (.ret (.and (.bi .isinst (.cons (.var 11) (.cons (.cty "bool") .nil))) (.cmp .Eq (.var 11) (.call 11 (.cons (.var 8) (.cons (.var 7) .nil)))))) .nil
def b_law_8 : Ss := .cons (.asg (.nm 11) (.call 10 (.cons (.var 8) (.cons (.var 9) .nil)))) b_law_7
def b_law_9 : Ss := .cons (.ifs (.cmp .Is (.var 9) .cnon) b_law_6 .nil) b_law_8
def b_law_10 : Ss := .cons (.ifs (.or (.not (.tr (.bi .isinst (.cons (.var 10) (.cons (.cty "bool") .nil))))) (.cmp .NotEq (.var 10) (.call 11 (.cons (.var 8) (.cons (.var 7) .nil))))) b_law_5 .nil) b_law_9
def b_law_11 : Ss := .cons (.asg (.nm 10) (.call 10 (.cons (.var 8) (.cons (.var 7) .nil)))) b_law_10
def b_law_12 : Ss := .cons (.ifs (.cmp .IsNot (.call 10 (.cons (.var 8) (.cons (.var 6) .nil))) (.cbl true)) b_law_4 .nil) b_law_11
def b_law_13 : Ss := .cons (.ifs (.not (.tr (.call 8 (.cons (.call 9 (.cons (.var 7) (.cons (.var 6) .nil))) (.cons (.var 9) .nil))))) b_law_3 .nil) b_law_12
def b_law_14 : Ss := .cons (.ifs (.not (.tr (.call 8 (.cons (.call 9 (.cons (.var 6) (.cons (.var 7) .nil))) (.cons (.var 9) .nil))))) b_law_2 .nil) b_law_13
def b_law_15 : Ss := .cons (.asg (.nm 9) (.call 7 (.cons (.var 6) (.cons (.var 7) .nil)))) b_law_14
def b_law_16 : Ss := .cons (.asg (.nm 8) (.call 6 (.cons (.var 1) (.cons (.var 6) .nil)))) b_law_15
def b_law_17 : Ss := .cons (.ifs (.tr (.var 2)) b_law_1 .nil) b_law_16
def b_law_18 : Ss := .cons (.asg (.nm 7) (.call 4 (.cons (.var 1) (.cons (.var 3) (.cons (.var 5) .nil))))) b_law_17
def b_law_19 : Ss := .cons (.asg (.nm 6) (.call 4 (.cons (.var 1) (.cons (.var 3) (.cons (.var 5) .nil))))) b_law_18
def b_law_20 : Ss := .cons (.asg (.nm 5) (.call 3 (.cons (.var 1) (.cons (.var 4) .nil)))) b_law_19
def b_law_21 : Ss := .cons (.asg (.tup (.cons (.nm 3) (.cons (.nm 4) .nil))) (.call 2 (.cons (.var 1) .nil))) b_law_20
def b_law_22 : Ss := .cons (.asg (.nm 2) (.cmp .Eq (.call 1 (.cons (.var 1) (.cons (.cint 2) .nil))) (.cint 1))) b_law_21
def b_law : Ss := .cons (.asg (.nm 1) (.call 0 (.cons (.var 0) .nil))) b_law_22
abbrev N_law : List Str := ["script", "stream", "near", "facts", "numbers", "ranges", "first", "second", "state", "due", "told", "actual"]
abbrev st_law : Stmt := topS 20
theorem sc_law : FnScope N_law ["script"] (defScope st_law) := ⟨rfl, rfl, rfl, by decide +kernel, rfl, by decide +kernel, by decide +kernel⟩
abbrev f_law : List Str := ["_law_stream", "_law_next", "_law_sizes", "_law_ranges", "_law_free_box", "_law_near", "_law_state", "_law_due", "_law_box_same", "common_box", "in_box", "_law_in"]
abbrev z_law : List Str := ["bool", "isinstance"]

end K19
namespace K19
open PySem PySem.Spec PyProof.Rows L2 Vp

def dB : Option Bool → D
  | none => .non | some b => .bl b
def dS (s : Int × Int) : D := .tup [.int s.1, .int s.2]
def dX (es : List (Option Bool)) (ss : List (Int × Int)) : D := .tup [.tup (es.map dB), .tup (ss.map dS)]
def dT (hs : List Bool) (vs : List Int) : D := .tup [.tup (hs.map .bl), .tup (vs.map .int)]
abbrev Good (ss : List (Int × Int)) : Prop := ∀ s ∈ ss, -2000000 ≤ s.1 ∧ s.1 ≤ s.2 ∧ s.2 ≤ 2000000

/-! ### the facts of two boxes -/
def fBad (a b : Option Bool) : Bool := match a, b with | some x, some y => x != y | _, _ => false
def fOne (a b : Option Bool) : Option Bool := match a with | none => b | some x => some x
def fM : List (Option Bool × Option Bool) → Option (List (Option Bool))
  | [] => some []
  | p :: r => if fBad p.1 p.2 then none else (fM r).map (fOne p.1 p.2 :: ·)
def sBad (a b : Int × Int) : Prop := min a.2 b.2 < max a.1 b.1
instance (a b : Int × Int) : Decidable (sBad a b) := by unfold sBad; infer_instance
def sOne (a b : Int × Int) : Int × Int := (if b.1 > a.1 then b.1 else a.1, if b.2 < a.2 then b.2 else a.2)
def sM : List ((Int × Int) × (Int × Int)) → Option (List (Int × Int))
  | [] => some []
  | p :: r => if (sOne p.1 p.2).2 < (sOne p.1 p.2).1 then none else (sM r).map (sOne p.1 p.2 :: ·)
def boxM (e1 e2 : List (Option Bool)) (s1 s2 : List (Int × Int)) : Option (List (Option Bool) × List (Int × Int)) := match fM (e1.zip e2) with
  | none => none
  | some es => match sM (s1.zip s2) with
    | none => none
    | some ss => some (es, ss)
def dOX : Option (List (Option Bool) × List (Int × Int)) → D
  | none => .non | some b => dX b.1 b.2
def C_box : Con := fun ds M Q _ => ∃ e1 e2 s1 s2, ds = [dX e1 s1, dX e2 s2] ∧ e1.length ≤ 1000 ∧ s1.length ≤ 1000 ∧ Q (dOX (boxM e1 e2 s1 s2)) M

theorem l_cbox1 (K : EndsD) (M0 : Mo) (a b : Option D) (q : Addr) (o5 o6 o7 o8 o9 o10 : Option D) : ∀ (L : List (Option Bool × Option Bool)) (x y : Option D) (M : Mo) (acc : List (Option Bool)), Own M0 M q (acc.map dB) → acc.length + L.length ≤ 2000 →
    (match fM L with
      | none => ∀ M, Sub M0 M → K.rt .non M
      | some es => ∀ x y M, Own M0 M q ((acc ++ es).map dB) → K.nx [a, b, some (.ref q), x, y, o5, o6, o7, o8, o9, o10] M) →
    vFor (vSs [] b_common_box_3) (.tup (.cons (.nm 3) (.cons (.nm 4) .nil))) K (L.map fun p => prD (dB p.1) (dB p.2)) [a, b, some (.ref q), x, y, o5, o6, o7, o8, o9, o10] M
  | [], x, y, M, acc, ow, hl, hK => by
    simp only [fM, List.append_nil] at hK
    exact hK _ _ _ ow
  | (u, v) :: L, x, y, M, acc, ow, hl, hK => by
    have hl' : (acc ++ [fOne u v]).length + L.length ≤ 2000 := by simp at hl ⊢; omega
    have ih : ∀ x y, fBad u v = false → vFor (vSs [] b_common_box_3) (.tup (.cons (.nm 3) (.cons (.nm 4) .nil))) K (L.map fun p => prD (dB p.1) (dB p.2)) [a, b, some (.ref q), x, y, o5, o6, o7, o8, o9, o10] (updM M q (.lst (acc.map dB ++ [dB (fOne u v)]))) := fun x y hb => by
      refine l_cbox1 K M0 a b q o5 o6 o7 o8 o9 o10 L x y _ (acc ++ [fOne u v]) (by rw [List.map_append]; exact ow.set) hl' ?_
      simp only [fM, hb] at hK
      cases h : fM L with
      | none => simp only [h] at hK; exact hK
      | some es => simp only [h] at hK; simpa using hK
    have hw : acc.length < 16777216 := by omega
    have bad : fBad u v = true → K.rt .non M := fun h => by
      simp only [fM, h] at hK
      exact hK M ow.mv
    rw [List.map_cons]
    refine vFor_cons ⟨_, rfl, fun N hN => ?_⟩
    cases u with
    | none => cases v with
      | none =>
        simp (maxSteps := 400000) only [vSs, vS, vE, vEs, vT, vTo, vI, startD, endsOf, List.map_cons, List.map_nil, List.length_cons, List.length_nil, List.replicate, List.cons_append, List.nil_append, Nat.reduceAdd, Nat.reduceSub, Nat.reduceLeDiff, List.getElem?_cons_zero, List.getElem?_cons_succ, Option.some.injEq, exists_eq_left', exists_eq_left, exists_eq', exists_eq, bindT, bindTs, List.set_cons_zero, List.set_cons_succ, ixV, atI0, atI1, atI2, atI3, cmpV, cmpEq, cmpIs, fOp, fCmp, binV, augV, Bi.wp, Bi.val, truD, wipeR, slotsT, slotsTs, Int.cast_ofNat_Int, seqV, seqF, seqL, Option.map_some, D.ref.injEq, D.int.injEq, D.bl.injEq, MO.lst.injEq, exists_and_left, exists_and_right, updM_same, updM_updM, ixN0, ixN1, ixN2, ifB, ifNB, Bool.not_true, Bool.not_false, Bool.false_eq_true, Bool.true_eq_false, if_true, if_false, ite_true, ite_false, true_and, and_true, or_true, true_or, or_false, false_or, false_and, and_false, String.reduceEq, eq_self, decide_true, decide_false, exIf, ne_eq, not_false_eq_true, Nat.zero_le, b_common_box_3, b_common_box_2, prD, dB, ow.at', List.length_map, hw]
        exact hN _ _ (ih _ _ rfl)
      | some v =>
        simp (maxSteps := 400000) only [vSs, vS, vE, vEs, vT, vTo, vI, startD, endsOf, List.map_cons, List.map_nil, List.length_cons, List.length_nil, List.replicate, List.cons_append, List.nil_append, Nat.reduceAdd, Nat.reduceSub, Nat.reduceLeDiff, List.getElem?_cons_zero, List.getElem?_cons_succ, Option.some.injEq, exists_eq_left', exists_eq_left, exists_eq', exists_eq, bindT, bindTs, List.set_cons_zero, List.set_cons_succ, ixV, atI0, atI1, atI2, atI3, cmpV, cmpEq, cmpIs, fOp, fCmp, binV, augV, Bi.wp, Bi.val, truD, wipeR, slotsT, slotsTs, Int.cast_ofNat_Int, seqV, seqF, seqL, Option.map_some, D.ref.injEq, D.int.injEq, D.bl.injEq, MO.lst.injEq, exists_and_left, exists_and_right, updM_same, updM_updM, ixN0, ixN1, ixN2, ifB, ifNB, Bool.not_true, Bool.not_false, Bool.false_eq_true, Bool.true_eq_false, if_true, if_false, ite_true, ite_false, true_and, and_true, or_true, true_or, or_false, false_or, false_and, and_false, String.reduceEq, eq_self, decide_true, decide_false, exIf, ne_eq, not_false_eq_true, Nat.zero_le, b_common_box_3, b_common_box_2, prD, dB, ow.at', List.length_map, hw]
        exact hN _ _ (ih _ _ rfl)
    | some u => cases v with
      | none =>
        simp (maxSteps := 400000) only [vSs, vS, vE, vEs, vT, vTo, vI, startD, endsOf, List.map_cons, List.map_nil, List.length_cons, List.length_nil, List.replicate, List.cons_append, List.nil_append, Nat.reduceAdd, Nat.reduceSub, Nat.reduceLeDiff, List.getElem?_cons_zero, List.getElem?_cons_succ, Option.some.injEq, exists_eq_left', exists_eq_left, exists_eq', exists_eq, bindT, bindTs, List.set_cons_zero, List.set_cons_succ, ixV, atI0, atI1, atI2, atI3, cmpV, cmpEq, cmpIs, fOp, fCmp, binV, augV, Bi.wp, Bi.val, truD, wipeR, slotsT, slotsTs, Int.cast_ofNat_Int, seqV, seqF, seqL, Option.map_some, D.ref.injEq, D.int.injEq, D.bl.injEq, MO.lst.injEq, exists_and_left, exists_and_right, updM_same, updM_updM, ixN0, ixN1, ixN2, ifB, ifNB, Bool.not_true, Bool.not_false, Bool.false_eq_true, Bool.true_eq_false, if_true, if_false, ite_true, ite_false, true_and, and_true, or_true, true_or, or_false, false_or, false_and, and_false, String.reduceEq, eq_self, decide_true, decide_false, exIf, ne_eq, not_false_eq_true, Nat.zero_le, b_common_box_3, b_common_box_2, prD, dB, ow.at', List.length_map, hw]
        exact hN _ _ (ih _ _ rfl)
      | some v =>
        by_cases huv : u = v
        · subst huv
          simp (maxSteps := 400000) only [vSs, vS, vE, vEs, vT, vTo, vI, startD, endsOf, List.map_cons, List.map_nil, List.length_cons, List.length_nil, List.replicate, List.cons_append, List.nil_append, Nat.reduceAdd, Nat.reduceSub, Nat.reduceLeDiff, List.getElem?_cons_zero, List.getElem?_cons_succ, Option.some.injEq, exists_eq_left', exists_eq_left, exists_eq', exists_eq, bindT, bindTs, List.set_cons_zero, List.set_cons_succ, ixV, atI0, atI1, atI2, atI3, cmpV, cmpEq, cmpIs, fOp, fCmp, binV, augV, Bi.wp, Bi.val, truD, wipeR, slotsT, slotsTs, Int.cast_ofNat_Int, seqV, seqF, seqL, Option.map_some, D.ref.injEq, D.int.injEq, D.bl.injEq, MO.lst.injEq, exists_and_left, exists_and_right, updM_same, updM_updM, ixN0, ixN1, ixN2, ifB, ifNB, Bool.not_true, Bool.not_false, Bool.false_eq_true, Bool.true_eq_false, if_true, if_false, ite_true, ite_false, true_and, and_true, or_true, true_or, or_false, false_or, false_and, and_false, String.reduceEq, eq_self, decide_true, decide_false, exIf, ne_eq, not_false_eq_true, Nat.zero_le, b_common_box_3, b_common_box_2, b_common_box_1, prD, dB, ow.at', List.length_map, hw]
          exact hN _ _ (ih _ _ (by simp [fBad]))
        · simp (maxSteps := 400000) only [vSs, vS, vE, vEs, vT, vTo, vI, startD, endsOf, List.map_cons, List.map_nil, List.length_cons, List.length_nil, List.replicate, List.cons_append, List.nil_append, Nat.reduceAdd, Nat.reduceSub, Nat.reduceLeDiff, List.getElem?_cons_zero, List.getElem?_cons_succ, Option.some.injEq, exists_eq_left', exists_eq_left, exists_eq', exists_eq, bindT, bindTs, List.set_cons_zero, List.set_cons_succ, ixV, atI0, atI1, atI2, atI3, cmpV, cmpEq, cmpIs, fOp, fCmp, binV, augV, Bi.wp, Bi.val, truD, wipeR, slotsT, slotsTs, Int.cast_ofNat_Int, seqV, seqF, seqL, Option.map_some, D.ref.injEq, D.int.injEq, D.bl.injEq, MO.lst.injEq, exists_and_left, exists_and_right, updM_same, updM_updM, ixN0, ixN1, ixN2, ifB, ifNB, Bool.not_true, Bool.not_false, Bool.false_eq_true, Bool.true_eq_false, if_true, if_false, ite_true, ite_false, true_and, and_true, or_true, true_or, or_false, false_or, false_and, and_false, String.reduceEq, eq_self, decide_true, decide_false, exIf, ne_eq, not_false_eq_true, Nat.zero_le, b_common_box_3, b_common_box_2, b_common_box_1, prD, dB, ow.at', List.length_map, hw, huv, decide_false]
          exact bad (by simp [fBad, huv])

theorem l_cbox2 (K : EndsD) (M0 : Mo) (o0 o1 o2 o3 o4 : Option D) (q : Addr) : ∀ (L : List ((Int × Int) × (Int × Int))) (o6 o7 o8 o9 o10 : Option D) (M : Mo) (acc : List (Int × Int)), Own M0 M q (acc.map dS) → acc.length + L.length ≤ 2000 →
    (match sM L with
      | none => ∀ M, Sub M0 M → K.rt .non M
      | some ss => ∀ o6 o7 o8 o9 o10 M, Own M0 M q ((acc ++ ss).map dS) → K.nx [o0, o1, o2, o3, o4, some (.ref q), o6, o7, o8, o9, o10] M) →
    vFor (vSs [] b_common_box_7) (.tup (.cons (.tup (.cons (.nm 6) (.cons (.nm 7) .nil))) (.cons (.tup (.cons (.nm 8) (.cons (.nm 9) .nil))) .nil))) K (L.map fun p => prD (dS p.1) (dS p.2)) [o0, o1, o2, o3, o4, some (.ref q), o6, o7, o8, o9, o10] M
  | [], _, _, _, _, _, M, acc, ow, hl, hK => by
    simp only [sM, List.append_nil] at hK
    exact hK _ _ _ _ _ _ ow
  | (u, v) :: L, o6, o7, o8, o9, o10, M, acc, ow, hl, hK => by
    have hl' : (acc ++ [sOne u v]).length + L.length ≤ 2000 := by simp at hl ⊢; omega
    have hw : acc.length < 16777216 := by omega
    rw [List.map_cons]
    refine vFor_cons ⟨_, rfl, fun N hN => ?_⟩
    simp (maxSteps := 400000) only [vSs, vS, vE, vEs, vT, vTo, vI, startD, endsOf, List.map_cons, List.map_nil, List.length_cons, List.length_nil, List.replicate, List.cons_append, List.nil_append, Nat.reduceAdd, Nat.reduceSub, Nat.reduceLeDiff, List.getElem?_cons_zero, List.getElem?_cons_succ, Option.some.injEq, exists_eq_left', exists_eq_left, exists_eq', exists_eq, bindT, bindTs, List.set_cons_zero, List.set_cons_succ, ixV, atI0, atI1, atI2, atI3, cmpV, cmpEq, cmpIs, fOp, fCmp, binV, augV, Bi.wp, Bi.val, truD, wipeR, slotsT, slotsTs, Int.cast_ofNat_Int, seqV, seqF, seqL, Option.map_some, D.ref.injEq, D.int.injEq, D.bl.injEq, MO.lst.injEq, exists_and_left, exists_and_right, updM_same, updM_updM, ixN0, ixN1, ixN2, ifB, ifNB, Bool.not_true, Bool.not_false, Bool.false_eq_true, Bool.true_eq_false, if_true, if_false, ite_true, ite_false, true_and, and_true, or_true, true_or, or_false, false_or, false_and, and_false, String.reduceEq, eq_self, decide_true, decide_false, exIf, ne_eq, not_false_eq_true, Nat.zero_le, b_common_box_7, prD, dS]
    simp (maxSteps := 400000) only [vSs, vS, vE, vEs, vT, vTo, vI, startD, endsOf, List.map_cons, List.map_nil, List.length_cons, List.length_nil, List.replicate, List.cons_append, List.nil_append, Nat.reduceAdd, Nat.reduceSub, Nat.reduceLeDiff, List.getElem?_cons_zero, List.getElem?_cons_succ, Option.some.injEq, exists_eq_left', exists_eq_left, exists_eq', exists_eq, bindT, bindTs, List.set_cons_zero, List.set_cons_succ, ixV, atI0, atI1, atI2, atI3, cmpV, cmpEq, cmpIs, fOp, fCmp, binV, augV, Bi.wp, Bi.val, truD, wipeR, slotsT, slotsTs, Int.cast_ofNat_Int, seqV, seqF, seqL, Option.map_some, D.ref.injEq, D.int.injEq, D.bl.injEq, MO.lst.injEq, exists_and_left, exists_and_right, updM_same, updM_updM, ixN0, ixN1, ixN2, ifB, ifNB, Bool.not_true, Bool.not_false, Bool.false_eq_true, Bool.true_eq_false, if_true, if_false, ite_true, ite_false, true_and, and_true, or_true, true_or, or_false, false_or, false_and, and_false, String.reduceEq, eq_self, decide_true, decide_false, exIf, ne_eq, not_false_eq_true, Nat.zero_le, b_common_box_6]
    refine iteI (fun hb => ?_) (fun hb => ?_)
    · simp (maxSteps := 400000) only [vSs, vS, vE, vEs, vT, vTo, vI, startD, endsOf, List.map_cons, List.map_nil, List.length_cons, List.length_nil, List.replicate, List.cons_append, List.nil_append, Nat.reduceAdd, Nat.reduceSub, Nat.reduceLeDiff, List.getElem?_cons_zero, List.getElem?_cons_succ, Option.some.injEq, exists_eq_left', exists_eq_left, exists_eq', exists_eq, bindT, bindTs, List.set_cons_zero, List.set_cons_succ, ixV, atI0, atI1, atI2, atI3, cmpV, cmpEq, cmpIs, fOp, fCmp, binV, augV, Bi.wp, Bi.val, truD, wipeR, slotsT, slotsTs, Int.cast_ofNat_Int, seqV, seqF, seqL, Option.map_some, D.ref.injEq, D.int.injEq, D.bl.injEq, MO.lst.injEq, exists_and_left, exists_and_right, updM_same, updM_updM, ixN0, ixN1, ixN2, ifB, ifNB, Bool.not_true, Bool.not_false, Bool.false_eq_true, Bool.true_eq_false, if_true, if_false, ite_true, ite_false, true_and, and_true, or_true, true_or, or_false, false_or, false_and, and_false, String.reduceEq, eq_self, decide_true, decide_false, exIf, ne_eq, not_false_eq_true, Nat.zero_le, b_common_box_4]
      have e : (sOne u v).2 < (sOne u v).1 := hb
      simp only [sM, e, if_true] at hK
      exact hK M ow.mv
    · simp (maxSteps := 400000) only [vSs, vS, vE, vEs, vT, vTo, vI, startD, endsOf, List.map_cons, List.map_nil, List.length_cons, List.length_nil, List.replicate, List.cons_append, List.nil_append, Nat.reduceAdd, Nat.reduceSub, Nat.reduceLeDiff, List.getElem?_cons_zero, List.getElem?_cons_succ, Option.some.injEq, exists_eq_left', exists_eq_left, exists_eq', exists_eq, bindT, bindTs, List.set_cons_zero, List.set_cons_succ, ixV, atI0, atI1, atI2, atI3, cmpV, cmpEq, cmpIs, fOp, fCmp, binV, augV, Bi.wp, Bi.val, truD, wipeR, slotsT, slotsTs, Int.cast_ofNat_Int, seqV, seqF, seqL, Option.map_some, D.ref.injEq, D.int.injEq, D.bl.injEq, MO.lst.injEq, exists_and_left, exists_and_right, updM_same, updM_updM, ixN0, ixN1, ixN2, ifB, ifNB, Bool.not_true, Bool.not_false, Bool.false_eq_true, Bool.true_eq_false, if_true, if_false, ite_true, ite_false, true_and, and_true, or_true, true_or, or_false, false_or, false_and, and_false, String.reduceEq, eq_self, decide_true, decide_false, exIf, ne_eq, not_false_eq_true, Nat.zero_le, b_common_box_5, ow.at', List.length_map, hw]
      refine hN _ _ (l_cbox2 K M0 o0 o1 o2 o3 o4 q L _ _ _ _ _ _ (acc ++ [sOne u v]) (by rw [List.map_append]; exact ow.set) hl' ?_)
      have e : ¬ (sOne u v).2 < (sOne u v).1 := hb
      simp only [sM, e, if_false] at hK
      cases h : sM L with
      | none => simp only [h, Option.map_none] at hK; exact hK
      | some es => simp only [h, Option.map_some] at hK; simpa using hK
theorem w_cbox (ds : List D) (M : Mo) (Q : QE) (X : XQ) (h : C_box ds M Q X) : vSs [] b_common_box (endsOf Q X) (startD 11 ds) M := by
  obtain ⟨e1, e2, s1, s2, rfl, h1, h2, q⟩ := h
  simp (maxSteps := 400000) only [vSs, vS, vE, vEs, vT, vTo, vI, startD, endsOf, List.map_cons, List.map_nil, List.length_cons, List.length_nil, List.replicate, List.cons_append, List.nil_append, Nat.reduceAdd, Nat.reduceSub, Nat.reduceLeDiff, List.getElem?_cons_zero, List.getElem?_cons_succ, Option.some.injEq, exists_eq_left', exists_eq_left, exists_eq', exists_eq, bindT, bindTs, List.set_cons_zero, List.set_cons_succ, ixV, atI0, atI1, atI2, atI3, cmpV, cmpEq, cmpIs, fOp, fCmp, binV, augV, Bi.wp, Bi.val, truD, wipeR, slotsT, slotsTs, Int.cast_ofNat_Int, seqV, seqF, seqL, Option.map_some, D.ref.injEq, D.int.injEq, D.bl.injEq, MO.lst.injEq, exists_and_left, exists_and_right, updM_same, updM_updM, ixN0, ixN1, ixN2, ifB, ifNB, Bool.not_true, Bool.not_false, Bool.false_eq_true, Bool.true_eq_false, if_true, if_false, ite_true, ite_false, true_and, and_true, or_true, true_or, or_false, false_or, false_and, and_false, String.reduceEq, eq_self, decide_true, decide_false, exIf, ne_eq, not_false_eq_true, Nat.zero_le, b_common_box]
  intro r hr
  simp (maxSteps := 400000) only [vSs, vS, vE, vEs, vT, vTo, vI, startD, endsOf, List.map_cons, List.map_nil, List.length_cons, List.length_nil, List.replicate, List.cons_append, List.nil_append, Nat.reduceAdd, Nat.reduceSub, Nat.reduceLeDiff, List.getElem?_cons_zero, List.getElem?_cons_succ, Option.some.injEq, exists_eq_left', exists_eq_left, exists_eq', exists_eq, bindT, bindTs, List.set_cons_zero, List.set_cons_succ, ixV, atI0, atI1, atI2, atI3, cmpV, cmpEq, cmpIs, fOp, fCmp, binV, augV, Bi.wp, Bi.val, truD, wipeR, slotsT, slotsTs, Int.cast_ofNat_Int, seqV, seqF, seqL, Option.map_some, D.ref.injEq, D.int.injEq, D.bl.injEq, MO.lst.injEq, exists_and_left, exists_and_right, updM_same, updM_updM, ixN0, ixN1, ixN2, ifB, ifNB, Bool.not_true, Bool.not_false, Bool.false_eq_true, Bool.true_eq_false, if_true, if_false, ite_true, ite_false, true_and, and_true, or_true, true_or, or_false, false_or, false_and, and_false, String.reduceEq, eq_self, decide_true, decide_false, exIf, ne_eq, not_false_eq_true, Nat.zero_le, b_common_box_11, dX, zipWith_pair]
  refine l_cbox1 _ M _ _ r _ _ _ _ _ _ (e1.zip e2) _ _ _ [] (Own.new (Sub.refl _) hr) (by simp; omega) ?_
  cases hf : fM (e1.zip e2) with
  | none => exact fun M1 s => ⟨M, s, by simpa [boxM, hf, dOX] using q⟩
  | some es =>
    intro x y M1 ow
    simp (maxSteps := 400000) only [vSs, vS, vE, vEs, vT, vTo, vI, startD, endsOf, List.map_cons, List.map_nil, List.length_cons, List.length_nil, List.replicate, List.cons_append, List.nil_append, Nat.reduceAdd, Nat.reduceSub, Nat.reduceLeDiff, List.getElem?_cons_zero, List.getElem?_cons_succ, Option.some.injEq, exists_eq_left', exists_eq_left, exists_eq', exists_eq, bindT, bindTs, List.set_cons_zero, List.set_cons_succ, ixV, atI0, atI1, atI2, atI3, cmpV, cmpEq, cmpIs, fOp, fCmp, binV, augV, Bi.wp, Bi.val, truD, wipeR, slotsT, slotsTs, Int.cast_ofNat_Int, seqV, seqF, seqL, Option.map_some, D.ref.injEq, D.int.injEq, D.bl.injEq, MO.lst.injEq, exists_and_left, exists_and_right, updM_same, updM_updM, ixN0, ixN1, ixN2, ifB, ifNB, Bool.not_true, Bool.not_false, Bool.false_eq_true, Bool.true_eq_false, if_true, if_false, ite_true, ite_false, true_and, and_true, or_true, true_or, or_false, false_or, false_and, and_false, String.reduceEq, eq_self, decide_true, decide_false, exIf, ne_eq, not_false_eq_true, Nat.zero_le, b_common_box_10]
    intro r' hr'
    simp (maxSteps := 400000) only [vSs, vS, vE, vEs, vT, vTo, vI, startD, endsOf, List.map_cons, List.map_nil, List.length_cons, List.length_nil, List.replicate, List.cons_append, List.nil_append, Nat.reduceAdd, Nat.reduceSub, Nat.reduceLeDiff, List.getElem?_cons_zero, List.getElem?_cons_succ, Option.some.injEq, exists_eq_left', exists_eq_left, exists_eq', exists_eq, bindT, bindTs, List.set_cons_zero, List.set_cons_succ, ixV, atI0, atI1, atI2, atI3, cmpV, cmpEq, cmpIs, fOp, fCmp, binV, augV, Bi.wp, Bi.val, truD, wipeR, slotsT, slotsTs, Int.cast_ofNat_Int, seqV, seqF, seqL, Option.map_some, D.ref.injEq, D.int.injEq, D.bl.injEq, MO.lst.injEq, exists_and_left, exists_and_right, updM_same, updM_updM, ixN0, ixN1, ixN2, ifB, ifNB, Bool.not_true, Bool.not_false, Bool.false_eq_true, Bool.true_eq_false, if_true, if_false, ite_true, ite_false, true_and, and_true, or_true, true_or, or_false, false_or, false_and, and_false, String.reduceEq, eq_self, decide_true, decide_false, exIf, ne_eq, not_false_eq_true, Nat.zero_le, b_common_box_9, dX, zipWith_pair]
    refine l_cbox2 _ M1 _ _ _ _ _ r' (s1.zip s2) _ _ _ _ _ _ [] (Own.new (Sub.refl _) hr') (by simp; omega) ?_
    cases hs : sM (s1.zip s2) with
    | none => exact fun M2 s => ⟨M, ow.mv.trans s, by simpa [boxM, hf, hs, dOX] using q⟩
    | some ss =>
      intro _ _ _ _ _ M2 ow2
      simp (maxSteps := 400000) only [vSs, vS, vE, vEs, vT, vTo, vI, startD, endsOf, List.map_cons, List.map_nil, List.length_cons, List.length_nil, List.replicate, List.cons_append, List.nil_append, Nat.reduceAdd, Nat.reduceSub, Nat.reduceLeDiff, List.getElem?_cons_zero, List.getElem?_cons_succ, Option.some.injEq, exists_eq_left', exists_eq_left, exists_eq', exists_eq, bindT, bindTs, List.set_cons_zero, List.set_cons_succ, ixV, atI0, atI1, atI2, atI3, cmpV, cmpEq, cmpIs, fOp, fCmp, binV, augV, Bi.wp, Bi.val, truD, wipeR, slotsT, slotsTs, Int.cast_ofNat_Int, seqV, seqF, seqL, Option.map_some, D.ref.injEq, D.int.injEq, D.bl.injEq, MO.lst.injEq, exists_and_left, exists_and_right, updM_same, updM_updM, ixN0, ixN1, ixN2, ifB, ifNB, Bool.not_true, Bool.not_false, Bool.false_eq_true, Bool.true_eq_false, if_true, if_false, ite_true, ite_false, true_and, and_true, or_true, true_or, or_false, false_or, false_and, and_false, String.reduceEq, eq_self, decide_true, decide_false, exIf, ne_eq, not_false_eq_true, Nat.zero_le, b_common_box_8, (ow.sub ow2.mv).at', ow2.at']
      exact ⟨M, ow.mv.trans ow2.mv, by simpa [boxM, hf, hs, dOX, dX] using q⟩

/-! ### the due box, the same way -/
theorem l_due1 (K : EndsD) (M0 : Mo) (a b : Option D) (q : Addr) (o5 : Option D) : ∀ (L : List (Option Bool × Option Bool)) (x y : Option D) (M : Mo) (acc : List (Option Bool)), Own M0 M q (acc.map dB) → acc.length + L.length ≤ 2000 →
    (match fM L with
      | none => ∀ M, Sub M0 M → K.rt .non M
      | some es => ∀ x y M, Own M0 M q ((acc ++ es).map dB) → K.nx [a, b, some (.ref q), x, y, o5] M) →
    vFor (vSs [] b_law_due_3) (.tup (.cons (.nm 3) (.cons (.nm 4) .nil))) K (L.map fun p => prD (dB p.1) (dB p.2)) [a, b, some (.ref q), x, y, o5] M
  | [], x, y, M, acc, ow, hl, hK => by
    simp only [fM, List.append_nil] at hK
    exact hK _ _ _ ow
  | (u, v) :: L, x, y, M, acc, ow, hl, hK => by
    have hl' : (acc ++ [fOne u v]).length + L.length ≤ 2000 := by simp at hl ⊢; omega
    have ih : ∀ x y, fBad u v = false → vFor (vSs [] b_law_due_3) (.tup (.cons (.nm 3) (.cons (.nm 4) .nil))) K (L.map fun p => prD (dB p.1) (dB p.2)) [a, b, some (.ref q), x, y, o5] (updM M q (.lst (acc.map dB ++ [dB (fOne u v)]))) := fun x y hb => by
      refine l_due1 K M0 a b q o5 L x y _ (acc ++ [fOne u v]) (by rw [List.map_append]; exact ow.set) hl' ?_
      simp only [fM, hb] at hK
      cases h : fM L with
      | none => simp only [h] at hK; exact hK
      | some es => simp only [h] at hK; simpa using hK
    have hw : acc.length < 16777216 := by omega
    have bad : fBad u v = true → K.rt .non M := fun h => by
      simp only [fM, h] at hK
      exact hK M ow.mv
    rw [List.map_cons]
    refine vFor_cons ⟨_, rfl, fun N hN => ?_⟩
    cases u with
    | none => cases v with
      | none =>
        simp (maxSteps := 400000) only [vSs, vS, vE, vEs, vT, vTo, vI, startD, endsOf, List.map_cons, List.map_nil, List.length_cons, List.length_nil, List.replicate, List.cons_append, List.nil_append, Nat.reduceAdd, Nat.reduceSub, Nat.reduceLeDiff, List.getElem?_cons_zero, List.getElem?_cons_succ, Option.some.injEq, exists_eq_left', exists_eq_left, exists_eq', exists_eq, bindT, bindTs, List.set_cons_zero, List.set_cons_succ, ixV, atI0, atI1, atI2, atI3, cmpV, cmpEq, cmpIs, fOp, fCmp, binV, augV, Bi.wp, Bi.val, truD, wipeR, slotsT, slotsTs, Int.cast_ofNat_Int, seqV, seqF, seqL, Option.map_some, D.ref.injEq, D.int.injEq, D.bl.injEq, MO.lst.injEq, exists_and_left, exists_and_right, updM_same, updM_updM, ixN0, ixN1, ixN2, ifB, ifNB, Bool.not_true, Bool.not_false, Bool.false_eq_true, Bool.true_eq_false, if_true, if_false, ite_true, ite_false, true_and, and_true, or_true, true_or, or_false, false_or, false_and, and_false, String.reduceEq, eq_self, decide_true, decide_false, exIf, ne_eq, not_false_eq_true, Nat.zero_le, b_law_due_3, b_law_due_2, prD, dB, ow.at', List.length_map, hw]
        exact hN _ _ (ih _ _ rfl)
      | some v =>
        simp (maxSteps := 400000) only [vSs, vS, vE, vEs, vT, vTo, vI, startD, endsOf, List.map_cons, List.map_nil, List.length_cons, List.length_nil, List.replicate, List.cons_append, List.nil_append, Nat.reduceAdd, Nat.reduceSub, Nat.reduceLeDiff, List.getElem?_cons_zero, List.getElem?_cons_succ, Option.some.injEq, exists_eq_left', exists_eq_left, exists_eq', exists_eq, bindT, bindTs, List.set_cons_zero, List.set_cons_succ, ixV, atI0, atI1, atI2, atI3, cmpV, cmpEq, cmpIs, fOp, fCmp, binV, augV, Bi.wp, Bi.val, truD, wipeR, slotsT, slotsTs, Int.cast_ofNat_Int, seqV, seqF, seqL, Option.map_some, D.ref.injEq, D.int.injEq, D.bl.injEq, MO.lst.injEq, exists_and_left, exists_and_right, updM_same, updM_updM, ixN0, ixN1, ixN2, ifB, ifNB, Bool.not_true, Bool.not_false, Bool.false_eq_true, Bool.true_eq_false, if_true, if_false, ite_true, ite_false, true_and, and_true, or_true, true_or, or_false, false_or, false_and, and_false, String.reduceEq, eq_self, decide_true, decide_false, exIf, ne_eq, not_false_eq_true, Nat.zero_le, b_law_due_3, b_law_due_2, prD, dB, ow.at', List.length_map, hw]
        exact hN _ _ (ih _ _ rfl)
    | some u => cases v with
      | none =>
        simp (maxSteps := 400000) only [vSs, vS, vE, vEs, vT, vTo, vI, startD, endsOf, List.map_cons, List.map_nil, List.length_cons, List.length_nil, List.replicate, List.cons_append, List.nil_append, Nat.reduceAdd, Nat.reduceSub, Nat.reduceLeDiff, List.getElem?_cons_zero, List.getElem?_cons_succ, Option.some.injEq, exists_eq_left', exists_eq_left, exists_eq', exists_eq, bindT, bindTs, List.set_cons_zero, List.set_cons_succ, ixV, atI0, atI1, atI2, atI3, cmpV, cmpEq, cmpIs, fOp, fCmp, binV, augV, Bi.wp, Bi.val, truD, wipeR, slotsT, slotsTs, Int.cast_ofNat_Int, seqV, seqF, seqL, Option.map_some, D.ref.injEq, D.int.injEq, D.bl.injEq, MO.lst.injEq, exists_and_left, exists_and_right, updM_same, updM_updM, ixN0, ixN1, ixN2, ifB, ifNB, Bool.not_true, Bool.not_false, Bool.false_eq_true, Bool.true_eq_false, if_true, if_false, ite_true, ite_false, true_and, and_true, or_true, true_or, or_false, false_or, false_and, and_false, String.reduceEq, eq_self, decide_true, decide_false, exIf, ne_eq, not_false_eq_true, Nat.zero_le, b_law_due_3, b_law_due_2, prD, dB, ow.at', List.length_map, hw]
        exact hN _ _ (ih _ _ rfl)
      | some v =>
        by_cases huv : u = v
        · subst huv
          simp (maxSteps := 400000) only [vSs, vS, vE, vEs, vT, vTo, vI, startD, endsOf, List.map_cons, List.map_nil, List.length_cons, List.length_nil, List.replicate, List.cons_append, List.nil_append, Nat.reduceAdd, Nat.reduceSub, Nat.reduceLeDiff, List.getElem?_cons_zero, List.getElem?_cons_succ, Option.some.injEq, exists_eq_left', exists_eq_left, exists_eq', exists_eq, bindT, bindTs, List.set_cons_zero, List.set_cons_succ, ixV, atI0, atI1, atI2, atI3, cmpV, cmpEq, cmpIs, fOp, fCmp, binV, augV, Bi.wp, Bi.val, truD, wipeR, slotsT, slotsTs, Int.cast_ofNat_Int, seqV, seqF, seqL, Option.map_some, D.ref.injEq, D.int.injEq, D.bl.injEq, MO.lst.injEq, exists_and_left, exists_and_right, updM_same, updM_updM, ixN0, ixN1, ixN2, ifB, ifNB, Bool.not_true, Bool.not_false, Bool.false_eq_true, Bool.true_eq_false, if_true, if_false, ite_true, ite_false, true_and, and_true, or_true, true_or, or_false, false_or, false_and, and_false, String.reduceEq, eq_self, decide_true, decide_false, exIf, ne_eq, not_false_eq_true, Nat.zero_le, b_law_due_3, b_law_due_2, b_law_due_1, prD, dB, ow.at', List.length_map, hw]
          exact hN _ _ (ih _ _ (by simp [fBad]))
        · simp (maxSteps := 400000) only [vSs, vS, vE, vEs, vT, vTo, vI, startD, endsOf, List.map_cons, List.map_nil, List.length_cons, List.length_nil, List.replicate, List.cons_append, List.nil_append, Nat.reduceAdd, Nat.reduceSub, Nat.reduceLeDiff, List.getElem?_cons_zero, List.getElem?_cons_succ, Option.some.injEq, exists_eq_left', exists_eq_left, exists_eq', exists_eq, bindT, bindTs, List.set_cons_zero, List.set_cons_succ, ixV, atI0, atI1, atI2, atI3, cmpV, cmpEq, cmpIs, fOp, fCmp, binV, augV, Bi.wp, Bi.val, truD, wipeR, slotsT, slotsTs, Int.cast_ofNat_Int, seqV, seqF, seqL, Option.map_some, D.ref.injEq, D.int.injEq, D.bl.injEq, MO.lst.injEq, exists_and_left, exists_and_right, updM_same, updM_updM, ixN0, ixN1, ixN2, ifB, ifNB, Bool.not_true, Bool.not_false, Bool.false_eq_true, Bool.true_eq_false, if_true, if_false, ite_true, ite_false, true_and, and_true, or_true, true_or, or_false, false_or, false_and, and_false, String.reduceEq, eq_self, decide_true, decide_false, exIf, ne_eq, not_false_eq_true, Nat.zero_le, b_law_due_3, b_law_due_2, b_law_due_1, prD, dB, ow.at', List.length_map, hw, huv, decide_false]
          exact bad (by simp [fBad, huv])
theorem l_due2 (K : EndsD) (M0 : Mo) (o0 o1 o2 : Option D) (q : Addr) : ∀ (L : List ((Int × Int) × (Int × Int))) (o3 o4 : Option D) (M : Mo) (acc : List (Int × Int)), Own M0 M q (acc.map dS) → acc.length + L.length ≤ 2000 →
    (match sM L with
      | none => ∀ M, Sub M0 M → K.rt .non M
      | some ss => ∀ o3 o4 M, Own M0 M q ((acc ++ ss).map dS) → K.nx [o0, o1, o2, o3, o4, some (.ref q)] M) →
    vFor (vSs [] b_law_due_6) (.tup (.cons (.nm 3) (.cons (.nm 4) .nil))) K (L.map fun p => prD (dS p.1) (dS p.2)) [o0, o1, o2, o3, o4, some (.ref q)] M
  | [], _, _, M, acc, ow, hl, hK => by
    simp only [sM, List.append_nil] at hK
    exact hK _ _ _ ow
  | (u, v) :: L, o3, o4, M, acc, ow, hl, hK => by
    have hl' : (acc ++ [sOne u v]).length + L.length ≤ 2000 := by simp at hl ⊢; omega
    have hw : acc.length < 16777216 := by omega
    rw [List.map_cons]
    refine vFor_cons ⟨_, rfl, fun N hN => ?_⟩
    simp (maxSteps := 400000) only [vSs, vS, vE, vEs, vT, vTo, vI, startD, endsOf, List.map_cons, List.map_nil, List.length_cons, List.length_nil, List.replicate, List.cons_append, List.nil_append, Nat.reduceAdd, Nat.reduceSub, Nat.reduceLeDiff, List.getElem?_cons_zero, List.getElem?_cons_succ, Option.some.injEq, exists_eq_left', exists_eq_left, exists_eq', exists_eq, bindT, bindTs, List.set_cons_zero, List.set_cons_succ, ixV, atI0, atI1, atI2, atI3, cmpV, cmpEq, cmpIs, fOp, fCmp, binV, augV, Bi.wp, Bi.val, truD, wipeR, slotsT, slotsTs, Int.cast_ofNat_Int, seqV, seqF, seqL, Option.map_some, D.ref.injEq, D.int.injEq, D.bl.injEq, MO.lst.injEq, exists_and_left, exists_and_right, updM_same, updM_updM, ixN0, ixN1, ixN2, ifB, ifNB, Bool.not_true, Bool.not_false, Bool.false_eq_true, Bool.true_eq_false, if_true, if_false, ite_true, ite_false, true_and, and_true, or_true, true_or, or_false, false_or, false_and, and_false, String.reduceEq, eq_self, decide_true, decide_false, exIf, ne_eq, not_false_eq_true, Nat.zero_le, b_law_due_6, prD, dS]
    refine iteI (fun hb => ?_) (fun hb => ?_)
    · simp (maxSteps := 400000) only [vSs, vS, vE, vEs, vT, vTo, vI, startD, endsOf, List.map_cons, List.map_nil, List.length_cons, List.length_nil, List.replicate, List.cons_append, List.nil_append, Nat.reduceAdd, Nat.reduceSub, Nat.reduceLeDiff, List.getElem?_cons_zero, List.getElem?_cons_succ, Option.some.injEq, exists_eq_left', exists_eq_left, exists_eq', exists_eq, bindT, bindTs, List.set_cons_zero, List.set_cons_succ, ixV, atI0, atI1, atI2, atI3, cmpV, cmpEq, cmpIs, fOp, fCmp, binV, augV, Bi.wp, Bi.val, truD, wipeR, slotsT, slotsTs, Int.cast_ofNat_Int, seqV, seqF, seqL, Option.map_some, D.ref.injEq, D.int.injEq, D.bl.injEq, MO.lst.injEq, exists_and_left, exists_and_right, updM_same, updM_updM, ixN0, ixN1, ixN2, ifB, ifNB, Bool.not_true, Bool.not_false, Bool.false_eq_true, Bool.true_eq_false, if_true, if_false, ite_true, ite_false, true_and, and_true, or_true, true_or, or_false, false_or, false_and, and_false, String.reduceEq, eq_self, decide_true, decide_false, exIf, ne_eq, not_false_eq_true, Nat.zero_le, b_law_due_4]
      have e : (sOne u v).2 < (sOne u v).1 := hb
      simp only [sM, e, if_true] at hK
      exact hK M ow.mv
    · simp (maxSteps := 400000) only [vSs, vS, vE, vEs, vT, vTo, vI, startD, endsOf, List.map_cons, List.map_nil, List.length_cons, List.length_nil, List.replicate, List.cons_append, List.nil_append, Nat.reduceAdd, Nat.reduceSub, Nat.reduceLeDiff, List.getElem?_cons_zero, List.getElem?_cons_succ, Option.some.injEq, exists_eq_left', exists_eq_left, exists_eq', exists_eq, bindT, bindTs, List.set_cons_zero, List.set_cons_succ, ixV, atI0, atI1, atI2, atI3, cmpV, cmpEq, cmpIs, fOp, fCmp, binV, augV, Bi.wp, Bi.val, truD, wipeR, slotsT, slotsTs, Int.cast_ofNat_Int, seqV, seqF, seqL, Option.map_some, D.ref.injEq, D.int.injEq, D.bl.injEq, MO.lst.injEq, exists_and_left, exists_and_right, updM_same, updM_updM, ixN0, ixN1, ixN2, ifB, ifNB, Bool.not_true, Bool.not_false, Bool.false_eq_true, Bool.true_eq_false, if_true, if_false, ite_true, ite_false, true_and, and_true, or_true, true_or, or_false, false_or, false_and, and_false, String.reduceEq, eq_self, decide_true, decide_false, exIf, ne_eq, not_false_eq_true, Nat.zero_le, b_law_due_5, ow.at', List.length_map, hw]
      refine hN _ _ (l_due2 K M0 o0 o1 o2 q L _ _ _ (acc ++ [sOne u v]) (by rw [List.map_append]; exact ow.set) hl' ?_)
      have e : ¬ (sOne u v).2 < (sOne u v).1 := hb
      simp only [sM, e, if_false] at hK
      cases h : sM L with
      | none => simp only [h, Option.map_none] at hK; exact hK
      | some es => simp only [h, Option.map_some] at hK; simpa using hK
theorem w_due (ds : List D) (M : Mo) (Q : QE) (X : XQ) (h : C_box ds M Q X) : vSs [] b_law_due (endsOf Q X) (startD 6 ds) M := by
  obtain ⟨e1, e2, s1, s2, rfl, h1, h2, q⟩ := h
  simp (maxSteps := 400000) only [vSs, vS, vE, vEs, vT, vTo, vI, startD, endsOf, List.map_cons, List.map_nil, List.length_cons, List.length_nil, List.replicate, List.cons_append, List.nil_append, Nat.reduceAdd, Nat.reduceSub, Nat.reduceLeDiff, List.getElem?_cons_zero, List.getElem?_cons_succ, Option.some.injEq, exists_eq_left', exists_eq_left, exists_eq', exists_eq, bindT, bindTs, List.set_cons_zero, List.set_cons_succ, ixV, atI0, atI1, atI2, atI3, cmpV, cmpEq, cmpIs, fOp, fCmp, binV, augV, Bi.wp, Bi.val, truD, wipeR, slotsT, slotsTs, Int.cast_ofNat_Int, seqV, seqF, seqL, Option.map_some, D.ref.injEq, D.int.injEq, D.bl.injEq, MO.lst.injEq, exists_and_left, exists_and_right, updM_same, updM_updM, ixN0, ixN1, ixN2, ifB, ifNB, Bool.not_true, Bool.not_false, Bool.false_eq_true, Bool.true_eq_false, if_true, if_false, ite_true, ite_false, true_and, and_true, or_true, true_or, or_false, false_or, false_and, and_false, String.reduceEq, eq_self, decide_true, decide_false, exIf, ne_eq, not_false_eq_true, Nat.zero_le, b_law_due]
  intro r hr
  simp (maxSteps := 400000) only [vSs, vS, vE, vEs, vT, vTo, vI, startD, endsOf, List.map_cons, List.map_nil, List.length_cons, List.length_nil, List.replicate, List.cons_append, List.nil_append, Nat.reduceAdd, Nat.reduceSub, Nat.reduceLeDiff, List.getElem?_cons_zero, List.getElem?_cons_succ, Option.some.injEq, exists_eq_left', exists_eq_left, exists_eq', exists_eq, bindT, bindTs, List.set_cons_zero, List.set_cons_succ, ixV, atI0, atI1, atI2, atI3, cmpV, cmpEq, cmpIs, fOp, fCmp, binV, augV, Bi.wp, Bi.val, truD, wipeR, slotsT, slotsTs, Int.cast_ofNat_Int, seqV, seqF, seqL, Option.map_some, D.ref.injEq, D.int.injEq, D.bl.injEq, MO.lst.injEq, exists_and_left, exists_and_right, updM_same, updM_updM, ixN0, ixN1, ixN2, ifB, ifNB, Bool.not_true, Bool.not_false, Bool.false_eq_true, Bool.true_eq_false, if_true, if_false, ite_true, ite_false, true_and, and_true, or_true, true_or, or_false, false_or, false_and, and_false, String.reduceEq, eq_self, decide_true, decide_false, exIf, ne_eq, not_false_eq_true, Nat.zero_le, b_law_due_10, dX, zipWith_pair]
  refine l_due1 _ M _ _ r _ (e1.zip e2) _ _ _ [] (Own.new (Sub.refl _) hr) (by simp; omega) ?_
  cases hf : fM (e1.zip e2) with
  | none => exact fun M1 s => ⟨M, s, by simpa [boxM, hf, dOX] using q⟩
  | some es =>
    intro x y M1 ow
    simp (maxSteps := 400000) only [vSs, vS, vE, vEs, vT, vTo, vI, startD, endsOf, List.map_cons, List.map_nil, List.length_cons, List.length_nil, List.replicate, List.cons_append, List.nil_append, Nat.reduceAdd, Nat.reduceSub, Nat.reduceLeDiff, List.getElem?_cons_zero, List.getElem?_cons_succ, Option.some.injEq, exists_eq_left', exists_eq_left, exists_eq', exists_eq, bindT, bindTs, List.set_cons_zero, List.set_cons_succ, ixV, atI0, atI1, atI2, atI3, cmpV, cmpEq, cmpIs, fOp, fCmp, binV, augV, Bi.wp, Bi.val, truD, wipeR, slotsT, slotsTs, Int.cast_ofNat_Int, seqV, seqF, seqL, Option.map_some, D.ref.injEq, D.int.injEq, D.bl.injEq, MO.lst.injEq, exists_and_left, exists_and_right, updM_same, updM_updM, ixN0, ixN1, ixN2, ifB, ifNB, Bool.not_true, Bool.not_false, Bool.false_eq_true, Bool.true_eq_false, if_true, if_false, ite_true, ite_false, true_and, and_true, or_true, true_or, or_false, false_or, false_and, and_false, String.reduceEq, eq_self, decide_true, decide_false, exIf, ne_eq, not_false_eq_true, Nat.zero_le, b_law_due_9]
    intro r' hr'
    simp (maxSteps := 400000) only [vSs, vS, vE, vEs, vT, vTo, vI, startD, endsOf, List.map_cons, List.map_nil, List.length_cons, List.length_nil, List.replicate, List.cons_append, List.nil_append, Nat.reduceAdd, Nat.reduceSub, Nat.reduceLeDiff, List.getElem?_cons_zero, List.getElem?_cons_succ, Option.some.injEq, exists_eq_left', exists_eq_left, exists_eq', exists_eq, bindT, bindTs, List.set_cons_zero, List.set_cons_succ, ixV, atI0, atI1, atI2, atI3, cmpV, cmpEq, cmpIs, fOp, fCmp, binV, augV, Bi.wp, Bi.val, truD, wipeR, slotsT, slotsTs, Int.cast_ofNat_Int, seqV, seqF, seqL, Option.map_some, D.ref.injEq, D.int.injEq, D.bl.injEq, MO.lst.injEq, exists_and_left, exists_and_right, updM_same, updM_updM, ixN0, ixN1, ixN2, ifB, ifNB, Bool.not_true, Bool.not_false, Bool.false_eq_true, Bool.true_eq_false, if_true, if_false, ite_true, ite_false, true_and, and_true, or_true, true_or, or_false, false_or, false_and, and_false, String.reduceEq, eq_self, decide_true, decide_false, exIf, ne_eq, not_false_eq_true, Nat.zero_le, b_law_due_8, dX, zipWith_pair]
    refine l_due2 _ M1 _ _ _ r' (s1.zip s2) _ _ _ [] (Own.new (Sub.refl _) hr') (by simp; omega) ?_
    cases hs : sM (s1.zip s2) with
    | none => exact fun M2 s => ⟨M, ow.mv.trans s, by simpa [boxM, hf, hs, dOX] using q⟩
    | some ss =>
      intro _ _ M2 ow2
      simp (maxSteps := 400000) only [vSs, vS, vE, vEs, vT, vTo, vI, startD, endsOf, List.map_cons, List.map_nil, List.length_cons, List.length_nil, List.replicate, List.cons_append, List.nil_append, Nat.reduceAdd, Nat.reduceSub, Nat.reduceLeDiff, List.getElem?_cons_zero, List.getElem?_cons_succ, Option.some.injEq, exists_eq_left', exists_eq_left, exists_eq', exists_eq, bindT, bindTs, List.set_cons_zero, List.set_cons_succ, ixV, atI0, atI1, atI2, atI3, cmpV, cmpEq, cmpIs, fOp, fCmp, binV, augV, Bi.wp, Bi.val, truD, wipeR, slotsT, slotsTs, Int.cast_ofNat_Int, seqV, seqF, seqL, Option.map_some, D.ref.injEq, D.int.injEq, D.bl.injEq, MO.lst.injEq, exists_and_left, exists_and_right, updM_same, updM_updM, ixN0, ixN1, ixN2, ifB, ifNB, Bool.not_true, Bool.not_false, Bool.false_eq_true, Bool.true_eq_false, if_true, if_false, ite_true, ite_false, true_and, and_true, or_true, true_or, or_false, false_or, false_and, and_false, String.reduceEq, eq_self, decide_true, decide_false, exIf, ne_eq, not_false_eq_true, Nat.zero_le, b_law_due_7, (ow.sub ow2.mv).at', ow2.at']
      exact ⟨M, ow.mv.trans ow2.mv, by simpa [boxM, hf, hs, dOX, dX] using q⟩
end K19
namespace K19
open PySem PySem.Spec PyProof.Rows L2 Vp

def fIn (h : Bool) (e : Option Bool) : Bool := match e with | none => true | some b => h == b
def sIn (v : Int) (s : Int × Int) : Bool := decide (s.1 ≤ v) && decide (v ≤ s.2)
def inM (hs : List Bool) (vs : List Int) (es : List (Option Bool)) (ss : List (Int × Int)) : Bool := (hs.zip es).all (fun p => fIn p.1 p.2) && (vs.zip ss).all (fun p => sIn p.1 p.2)
def dV (v : Int) : D := .tup [.int v, .int v]

/-! ### lies_in -/
def C_lies : Con := fun ds M Q _ => ∃ hs vs es ss, ds = [.tup [.tup (hs.map .bl), .tup (vs.map dV)], dX es ss] ∧ Q (.bl (inM hs vs es ss)) M
theorem w_lies (ds : List D) (M : Mo) (Q : QE) (X : XQ) (h : C_lies ds M Q X) : vSs [] b_lies_in (endsOf Q X) (startD 8 ds) M := by
  obtain ⟨hs, vs, es, ss, rfl, q⟩ := h
  simp (maxSteps := 400000) only [vSs, vS, vE, vEs, vT, vTo, vI, startD, endsOf, List.map_cons, List.map_nil, List.length_cons, List.length_nil, List.replicate, List.cons_append, List.nil_append, Nat.reduceAdd, Nat.reduceSub, Nat.reduceLeDiff, List.getElem?_cons_zero, List.getElem?_cons_succ, Option.some.injEq, exists_eq_left', exists_eq_left, exists_eq', exists_eq, bindT, bindTs, List.set_cons_zero, List.set_cons_succ, ixV, atI0, atI1, atI2, atI3, cmpV, cmpEq, cmpIs, fOp, fCmp, binV, augV, Bi.wp, Bi.val, truD, wipeR, slotsT, slotsTs, Int.cast_ofNat_Int, seqV, seqF, seqL, Option.map_some, D.ref.injEq, D.int.injEq, D.bl.injEq, MO.lst.injEq, exists_and_left, exists_and_right, updM_same, updM_updM, ixN0, ixN1, ixN2, ifB, ifNB, Bool.not_true, Bool.not_false, Bool.false_eq_true, Bool.true_eq_false, if_true, if_false, ite_true, ite_false, true_and, and_true, or_true, true_or, or_false, false_or, false_and, and_false, String.reduceEq, eq_self, decide_true, decide_false, exIf, ne_eq, not_false_eq_true, Nat.zero_le, b_lies_in, dX, zipWith_pair]
  generalize ha : some (D.tup [D.tup (hs.map D.bl), D.tup (vs.map dV)]) = a
  generalize hb : some (D.tup [D.tup (es.map dB), D.tup (ss.map dS)]) = b
  refine vFor_all _ (fun p => fIn p.1 p.2) (fun ρ => ∃ x y, ρ = [a, b, x, y, none, none, none, none]) ?_ (hs.zip es) _ ⟨_, _, rfl⟩ ?_ ?_
  · rintro ⟨u, v⟩ ρ ⟨x, y, rfl⟩
    refine ⟨_, rfl, fun N hT hF => ?_⟩
    cases v with
    | none =>
      simp (maxSteps := 400000) only [vSs, vS, vE, vEs, vT, vTo, vI, startD, endsOf, List.map_cons, List.map_nil, List.length_cons, List.length_nil, List.replicate, List.cons_append, List.nil_append, Nat.reduceAdd, Nat.reduceSub, Nat.reduceLeDiff, List.getElem?_cons_zero, List.getElem?_cons_succ, Option.some.injEq, exists_eq_left', exists_eq_left, exists_eq', exists_eq, bindT, bindTs, List.set_cons_zero, List.set_cons_succ, ixV, atI0, atI1, atI2, atI3, cmpV, cmpEq, cmpIs, fOp, fCmp, binV, augV, Bi.wp, Bi.val, truD, wipeR, slotsT, slotsTs, Int.cast_ofNat_Int, seqV, seqF, seqL, Option.map_some, D.ref.injEq, D.int.injEq, D.bl.injEq, MO.lst.injEq, exists_and_left, exists_and_right, updM_same, updM_updM, ixN0, ixN1, ixN2, ifB, ifNB, Bool.not_true, Bool.not_false, Bool.false_eq_true, Bool.true_eq_false, if_true, if_false, ite_true, ite_false, true_and, and_true, or_true, true_or, or_false, false_or, false_and, and_false, String.reduceEq, eq_self, decide_true, decide_false, exIf, ne_eq, not_false_eq_true, Nat.zero_le, b_lies_in_2, prD, dB]
      exact hT rfl _ ⟨_, _, rfl⟩
    | some v =>
      by_cases huv : u = v
      · subst huv
        simp (maxSteps := 400000) only [vSs, vS, vE, vEs, vT, vTo, vI, startD, endsOf, List.map_cons, List.map_nil, List.length_cons, List.length_nil, List.replicate, List.cons_append, List.nil_append, Nat.reduceAdd, Nat.reduceSub, Nat.reduceLeDiff, List.getElem?_cons_zero, List.getElem?_cons_succ, Option.some.injEq, exists_eq_left', exists_eq_left, exists_eq', exists_eq, bindT, bindTs, List.set_cons_zero, List.set_cons_succ, ixV, atI0, atI1, atI2, atI3, cmpV, cmpEq, cmpIs, fOp, fCmp, binV, augV, Bi.wp, Bi.val, truD, wipeR, slotsT, slotsTs, Int.cast_ofNat_Int, seqV, seqF, seqL, Option.map_some, D.ref.injEq, D.int.injEq, D.bl.injEq, MO.lst.injEq, exists_and_left, exists_and_right, updM_same, updM_updM, ixN0, ixN1, ixN2, ifB, ifNB, Bool.not_true, Bool.not_false, Bool.false_eq_true, Bool.true_eq_false, if_true, if_false, ite_true, ite_false, true_and, and_true, or_true, true_or, or_false, false_or, false_and, and_false, String.reduceEq, eq_self, decide_true, decide_false, exIf, ne_eq, not_false_eq_true, Nat.zero_le, b_lies_in_2, prD, dB]
        exact hT (by simp [fIn]) _ ⟨_, _, rfl⟩
      · simp (maxSteps := 400000) only [vSs, vS, vE, vEs, vT, vTo, vI, startD, endsOf, List.map_cons, List.map_nil, List.length_cons, List.length_nil, List.replicate, List.cons_append, List.nil_append, Nat.reduceAdd, Nat.reduceSub, Nat.reduceLeDiff, List.getElem?_cons_zero, List.getElem?_cons_succ, Option.some.injEq, exists_eq_left', exists_eq_left, exists_eq', exists_eq, bindT, bindTs, List.set_cons_zero, List.set_cons_succ, ixV, atI0, atI1, atI2, atI3, cmpV, cmpEq, cmpIs, fOp, fCmp, binV, augV, Bi.wp, Bi.val, truD, wipeR, slotsT, slotsTs, Int.cast_ofNat_Int, seqV, seqF, seqL, Option.map_some, D.ref.injEq, D.int.injEq, D.bl.injEq, MO.lst.injEq, exists_and_left, exists_and_right, updM_same, updM_updM, ixN0, ixN1, ixN2, ifB, ifNB, Bool.not_true, Bool.not_false, Bool.false_eq_true, Bool.true_eq_false, if_true, if_false, ite_true, ite_false, true_and, and_true, or_true, true_or, or_false, false_or, false_and, and_false, String.reduceEq, eq_self, decide_true, decide_false, exIf, ne_eq, not_false_eq_true, Nat.zero_le, b_lies_in_2, b_lies_in_1, prD, dB, huv]
        exact hF (by simp [fIn, huv])
  · rintro h1 ρ ⟨x, y, rfl⟩
    subst ha; subst hb
    simp (maxSteps := 400000) only [vSs, vS, vE, vEs, vT, vTo, vI, startD, endsOf, List.map_cons, List.map_nil, List.length_cons, List.length_nil, List.replicate, List.cons_append, List.nil_append, Nat.reduceAdd, Nat.reduceSub, Nat.reduceLeDiff, List.getElem?_cons_zero, List.getElem?_cons_succ, Option.some.injEq, exists_eq_left', exists_eq_left, exists_eq', exists_eq, bindT, bindTs, List.set_cons_zero, List.set_cons_succ, ixV, atI0, atI1, atI2, atI3, cmpV, cmpEq, cmpIs, fOp, fCmp, binV, augV, Bi.wp, Bi.val, truD, wipeR, slotsT, slotsTs, Int.cast_ofNat_Int, seqV, seqF, seqL, Option.map_some, D.ref.injEq, D.int.injEq, D.bl.injEq, MO.lst.injEq, exists_and_left, exists_and_right, updM_same, updM_updM, ixN0, ixN1, ixN2, ifB, ifNB, Bool.not_true, Bool.not_false, Bool.false_eq_true, Bool.true_eq_false, if_true, if_false, ite_true, ite_false, true_and, and_true, or_true, true_or, or_false, false_or, false_and, and_false, String.reduceEq, eq_self, decide_true, decide_false, exIf, ne_eq, not_false_eq_true, Nat.zero_le, b_lies_in_6, zipWith_pair]
    generalize ha : some (D.tup [D.tup (hs.map D.bl), D.tup (vs.map dV)]) = a
    generalize hb : some (D.tup [D.tup (es.map dB), D.tup (ss.map dS)]) = b
    refine vFor_all _ (fun p => sIn p.1 p.2) (fun ρ => ∃ o4 o5 o6 o7, ρ = [a, b, x, y, o4, o5, o6, o7]) ?_ (vs.zip ss) _ ⟨_, _, _, _, rfl⟩ ?_ ?_
    · rintro ⟨u, v⟩ ρ ⟨_, _, _, _, rfl⟩
      refine ⟨_, rfl, fun N hT hF => ?_⟩
      simp (maxSteps := 400000) only [vSs, vS, vE, vEs, vT, vTo, vI, startD, endsOf, List.map_cons, List.map_nil, List.length_cons, List.length_nil, List.replicate, List.cons_append, List.nil_append, Nat.reduceAdd, Nat.reduceSub, Nat.reduceLeDiff, List.getElem?_cons_zero, List.getElem?_cons_succ, Option.some.injEq, exists_eq_left', exists_eq_left, exists_eq', exists_eq, bindT, bindTs, List.set_cons_zero, List.set_cons_succ, ixV, atI0, atI1, atI2, atI3, cmpV, cmpEq, cmpIs, fOp, fCmp, binV, augV, Bi.wp, Bi.val, truD, wipeR, slotsT, slotsTs, Int.cast_ofNat_Int, seqV, seqF, seqL, Option.map_some, D.ref.injEq, D.int.injEq, D.bl.injEq, MO.lst.injEq, exists_and_left, exists_and_right, updM_same, updM_updM, ixN0, ixN1, ixN2, ifB, ifNB, Bool.not_true, Bool.not_false, Bool.false_eq_true, Bool.true_eq_false, if_true, if_false, ite_true, ite_false, true_and, and_true, or_true, true_or, or_false, false_or, false_and, and_false, String.reduceEq, eq_self, decide_true, decide_false, exIf, ne_eq, not_false_eq_true, Nat.zero_le, b_lies_in_4, b_lies_in_3, prD, dS, dV]
      refine iteI (fun g1 => hF (by simp [sIn]; omega)) fun g1 => iteI (fun g2 => hF (by simp [sIn]; omega)) fun g2 => hT (by simp [sIn]; omega) _ ⟨_, _, _, _, rfl⟩
    · rintro h2 ρ ⟨_, _, _, _, rfl⟩
      simp (maxSteps := 400000) only [vSs, vS, vE, vEs, vT, vTo, vI, startD, endsOf, List.map_cons, List.map_nil, List.length_cons, List.length_nil, List.replicate, List.cons_append, List.nil_append, Nat.reduceAdd, Nat.reduceSub, Nat.reduceLeDiff, List.getElem?_cons_zero, List.getElem?_cons_succ, Option.some.injEq, exists_eq_left', exists_eq_left, exists_eq', exists_eq, bindT, bindTs, List.set_cons_zero, List.set_cons_succ, ixV, atI0, atI1, atI2, atI3, cmpV, cmpEq, cmpIs, fOp, fCmp, binV, augV, Bi.wp, Bi.val, truD, wipeR, slotsT, slotsTs, Int.cast_ofNat_Int, seqV, seqF, seqL, Option.map_some, D.ref.injEq, D.int.injEq, D.bl.injEq, MO.lst.injEq, exists_and_left, exists_and_right, updM_same, updM_updM, ixN0, ixN1, ixN2, ifB, ifNB, Bool.not_true, Bool.not_false, Bool.false_eq_true, Bool.true_eq_false, if_true, if_false, ite_true, ite_false, true_and, and_true, or_true, true_or, or_false, false_or, false_and, and_false, String.reduceEq, eq_self, decide_true, decide_false, exIf, ne_eq, not_false_eq_true, Nat.zero_le, b_lies_in_5]
      exact ⟨M, Sub.refl _, by simpa only [inM, h1, h2, Bool.and_true] using q⟩
    · exact fun h2 => ⟨M, Sub.refl _, by simpa only [inM, h1, h2, Bool.and_false] using q⟩
  · exact fun h1 => ⟨M, Sub.refl _, by simpa only [inM, h1, Bool.false_and] using q⟩

/-! ### _law_in -/
def C_in : Con := fun ds M Q _ => ∃ hs vs es ss, ds = [dT hs vs, dX es ss] ∧ vs.length ≤ 1000 ∧ Q (.bl (inM hs vs es ss)) M
theorem w_in (ds : List D) (M : Mo) (Q : QE) (X : XQ) (h : C_in ds M Q X) : vSs [] b_law_in (endsOf Q X) (startD 6 ds) M := by
  obtain ⟨hs, vs, es, ss, rfl, _, q⟩ := h
  simp (maxSteps := 400000) only [vSs, vS, vE, vEs, vT, vTo, vI, startD, endsOf, List.map_cons, List.map_nil, List.length_cons, List.length_nil, List.replicate, List.cons_append, List.nil_append, Nat.reduceAdd, Nat.reduceSub, Nat.reduceLeDiff, List.getElem?_cons_zero, List.getElem?_cons_succ, Option.some.injEq, exists_eq_left', exists_eq_left, exists_eq', exists_eq, bindT, bindTs, List.set_cons_zero, List.set_cons_succ, ixV, atI0, atI1, atI2, atI3, cmpV, cmpEq, cmpIs, fOp, fCmp, binV, augV, Bi.wp, Bi.val, truD, wipeR, slotsT, slotsTs, Int.cast_ofNat_Int, seqV, seqF, seqL, Option.map_some, D.ref.injEq, D.int.injEq, D.bl.injEq, MO.lst.injEq, exists_and_left, exists_and_right, updM_same, updM_updM, ixN0, ixN1, ixN2, ifB, ifNB, Bool.not_true, Bool.not_false, Bool.false_eq_true, Bool.true_eq_false, if_true, if_false, ite_true, ite_false, true_and, and_true, or_true, true_or, or_false, false_or, false_and, and_false, String.reduceEq, eq_self, decide_true, decide_false, exIf, ne_eq, not_false_eq_true, Nat.zero_le, b_law_in, dX, dT, zipWith_pair]
  generalize ha : some (D.tup [D.tup (hs.map D.bl), D.tup (vs.map D.int)]) = a
  generalize hb : some (D.tup [D.tup (es.map dB), D.tup (ss.map dS)]) = b
  refine vFor_all _ (fun p => fIn p.1 p.2) (fun ρ => ∃ x y, ρ = [a, b, x, y, none, none]) ?_ (hs.zip es) _ ⟨_, _, rfl⟩ ?_ ?_
  · rintro ⟨u, v⟩ ρ ⟨x, y, rfl⟩
    refine ⟨_, rfl, fun N hT hF => ?_⟩
    cases v with
    | none =>
      simp (maxSteps := 400000) only [vSs, vS, vE, vEs, vT, vTo, vI, startD, endsOf, List.map_cons, List.map_nil, List.length_cons, List.length_nil, List.replicate, List.cons_append, List.nil_append, Nat.reduceAdd, Nat.reduceSub, Nat.reduceLeDiff, List.getElem?_cons_zero, List.getElem?_cons_succ, Option.some.injEq, exists_eq_left', exists_eq_left, exists_eq', exists_eq, bindT, bindTs, List.set_cons_zero, List.set_cons_succ, ixV, atI0, atI1, atI2, atI3, cmpV, cmpEq, cmpIs, fOp, fCmp, binV, augV, Bi.wp, Bi.val, truD, wipeR, slotsT, slotsTs, Int.cast_ofNat_Int, seqV, seqF, seqL, Option.map_some, D.ref.injEq, D.int.injEq, D.bl.injEq, MO.lst.injEq, exists_and_left, exists_and_right, updM_same, updM_updM, ixN0, ixN1, ixN2, ifB, ifNB, Bool.not_true, Bool.not_false, Bool.false_eq_true, Bool.true_eq_false, if_true, if_false, ite_true, ite_false, true_and, and_true, or_true, true_or, or_false, false_or, false_and, and_false, String.reduceEq, eq_self, decide_true, decide_false, exIf, ne_eq, not_false_eq_true, Nat.zero_le, b_law_in_2, prD, dB]
      exact hT rfl _ ⟨_, _, rfl⟩
    | some v =>
      by_cases huv : u = v
      · subst huv
        simp (maxSteps := 400000) only [vSs, vS, vE, vEs, vT, vTo, vI, startD, endsOf, List.map_cons, List.map_nil, List.length_cons, List.length_nil, List.replicate, List.cons_append, List.nil_append, Nat.reduceAdd, Nat.reduceSub, Nat.reduceLeDiff, List.getElem?_cons_zero, List.getElem?_cons_succ, Option.some.injEq, exists_eq_left', exists_eq_left, exists_eq', exists_eq, bindT, bindTs, List.set_cons_zero, List.set_cons_succ, ixV, atI0, atI1, atI2, atI3, cmpV, cmpEq, cmpIs, fOp, fCmp, binV, augV, Bi.wp, Bi.val, truD, wipeR, slotsT, slotsTs, Int.cast_ofNat_Int, seqV, seqF, seqL, Option.map_some, D.ref.injEq, D.int.injEq, D.bl.injEq, MO.lst.injEq, exists_and_left, exists_and_right, updM_same, updM_updM, ixN0, ixN1, ixN2, ifB, ifNB, Bool.not_true, Bool.not_false, Bool.false_eq_true, Bool.true_eq_false, if_true, if_false, ite_true, ite_false, true_and, and_true, or_true, true_or, or_false, false_or, false_and, and_false, String.reduceEq, eq_self, decide_true, decide_false, exIf, ne_eq, not_false_eq_true, Nat.zero_le, b_law_in_2, prD, dB]
        exact hT (by simp [fIn]) _ ⟨_, _, rfl⟩
      · simp (maxSteps := 400000) only [vSs, vS, vE, vEs, vT, vTo, vI, startD, endsOf, List.map_cons, List.map_nil, List.length_cons, List.length_nil, List.replicate, List.cons_append, List.nil_append, Nat.reduceAdd, Nat.reduceSub, Nat.reduceLeDiff, List.getElem?_cons_zero, List.getElem?_cons_succ, Option.some.injEq, exists_eq_left', exists_eq_left, exists_eq', exists_eq, bindT, bindTs, List.set_cons_zero, List.set_cons_succ, ixV, atI0, atI1, atI2, atI3, cmpV, cmpEq, cmpIs, fOp, fCmp, binV, augV, Bi.wp, Bi.val, truD, wipeR, slotsT, slotsTs, Int.cast_ofNat_Int, seqV, seqF, seqL, Option.map_some, D.ref.injEq, D.int.injEq, D.bl.injEq, MO.lst.injEq, exists_and_left, exists_and_right, updM_same, updM_updM, ixN0, ixN1, ixN2, ifB, ifNB, Bool.not_true, Bool.not_false, Bool.false_eq_true, Bool.true_eq_false, if_true, if_false, ite_true, ite_false, true_and, and_true, or_true, true_or, or_false, false_or, false_and, and_false, String.reduceEq, eq_self, decide_true, decide_false, exIf, ne_eq, not_false_eq_true, Nat.zero_le, b_law_in_2, b_law_in_1, prD, dB, huv]
        exact hF (by simp [fIn, huv])
  · rintro h1 ρ ⟨x, y, rfl⟩
    subst ha; subst hb
    simp (maxSteps := 400000) only [vSs, vS, vE, vEs, vT, vTo, vI, startD, endsOf, List.map_cons, List.map_nil, List.length_cons, List.length_nil, List.replicate, List.cons_append, List.nil_append, Nat.reduceAdd, Nat.reduceSub, Nat.reduceLeDiff, List.getElem?_cons_zero, List.getElem?_cons_succ, Option.some.injEq, exists_eq_left', exists_eq_left, exists_eq', exists_eq, bindT, bindTs, List.set_cons_zero, List.set_cons_succ, ixV, atI0, atI1, atI2, atI3, cmpV, cmpEq, cmpIs, fOp, fCmp, binV, augV, Bi.wp, Bi.val, truD, wipeR, slotsT, slotsTs, Int.cast_ofNat_Int, seqV, seqF, seqL, Option.map_some, D.ref.injEq, D.int.injEq, D.bl.injEq, MO.lst.injEq, exists_and_left, exists_and_right, updM_same, updM_updM, ixN0, ixN1, ixN2, ifB, ifNB, Bool.not_true, Bool.not_false, Bool.false_eq_true, Bool.true_eq_false, if_true, if_false, ite_true, ite_false, true_and, and_true, or_true, true_or, or_false, false_or, false_and, and_false, String.reduceEq, eq_self, decide_true, decide_false, exIf, ne_eq, not_false_eq_true, Nat.zero_le, b_law_in_6, zipWith_pair]
    generalize ha : some (D.tup [D.tup (hs.map D.bl), D.tup (vs.map D.int)]) = a
    generalize hb : some (D.tup [D.tup (es.map dB), D.tup (ss.map dS)]) = b
    refine vFor_all _ (fun p => sIn p.1 p.2) (fun ρ => ∃ o4 o5, ρ = [a, b, x, y, o4, o5]) ?_ (vs.zip ss) _ ⟨_, _, rfl⟩ ?_ ?_
    · rintro ⟨u, v⟩ ρ ⟨_, _, rfl⟩
      refine ⟨_, rfl, fun N hT hF => ?_⟩
      simp (maxSteps := 400000) only [vSs, vS, vE, vEs, vT, vTo, vI, startD, endsOf, List.map_cons, List.map_nil, List.length_cons, List.length_nil, List.replicate, List.cons_append, List.nil_append, Nat.reduceAdd, Nat.reduceSub, Nat.reduceLeDiff, List.getElem?_cons_zero, List.getElem?_cons_succ, Option.some.injEq, exists_eq_left', exists_eq_left, exists_eq', exists_eq, bindT, bindTs, List.set_cons_zero, List.set_cons_succ, ixV, atI0, atI1, atI2, atI3, cmpV, cmpEq, cmpIs, fOp, fCmp, binV, augV, Bi.wp, Bi.val, truD, wipeR, slotsT, slotsTs, Int.cast_ofNat_Int, seqV, seqF, seqL, Option.map_some, D.ref.injEq, D.int.injEq, D.bl.injEq, MO.lst.injEq, exists_and_left, exists_and_right, updM_same, updM_updM, ixN0, ixN1, ixN2, ifB, ifNB, Bool.not_true, Bool.not_false, Bool.false_eq_true, Bool.true_eq_false, if_true, if_false, ite_true, ite_false, true_and, and_true, or_true, true_or, or_false, false_or, false_and, and_false, String.reduceEq, eq_self, decide_true, decide_false, exIf, ne_eq, not_false_eq_true, Nat.zero_le, b_law_in_4, b_law_in_3, prD, dS]
      refine iteI (fun g1 => hF (by simp [sIn]; omega)) fun g1 => iteI (fun g2 => hF (by simp [sIn]; omega)) fun g2 => hT (by simp [sIn]; omega) _ ⟨_, _, rfl⟩
    · rintro h2 ρ ⟨_, _, rfl⟩
      simp (maxSteps := 400000) only [vSs, vS, vE, vEs, vT, vTo, vI, startD, endsOf, List.map_cons, List.map_nil, List.length_cons, List.length_nil, List.replicate, List.cons_append, List.nil_append, Nat.reduceAdd, Nat.reduceSub, Nat.reduceLeDiff, List.getElem?_cons_zero, List.getElem?_cons_succ, Option.some.injEq, exists_eq_left', exists_eq_left, exists_eq', exists_eq, bindT, bindTs, List.set_cons_zero, List.set_cons_succ, ixV, atI0, atI1, atI2, atI3, cmpV, cmpEq, cmpIs, fOp, fCmp, binV, augV, Bi.wp, Bi.val, truD, wipeR, slotsT, slotsTs, Int.cast_ofNat_Int, seqV, seqF, seqL, Option.map_some, D.ref.injEq, D.int.injEq, D.bl.injEq, MO.lst.injEq, exists_and_left, exists_and_right, updM_same, updM_updM, ixN0, ixN1, ixN2, ifB, ifNB, Bool.not_true, Bool.not_false, Bool.false_eq_true, Bool.true_eq_false, if_true, if_false, ite_true, ite_false, true_and, and_true, or_true, true_or, or_false, false_or, false_and, and_false, String.reduceEq, eq_self, decide_true, decide_false, exIf, ne_eq, not_false_eq_true, Nat.zero_le, b_law_in_5]
      exact ⟨M, Sub.refl _, by simpa only [inM, h1, h2, Bool.and_true] using q⟩
    · exact fun h2 => ⟨M, Sub.refl _, by simpa only [inM, h1, h2, Bool.and_false] using q⟩
  · exact fun h1 => ⟨M, Sub.refl _, by simpa only [inM, h1, Bool.false_and] using q⟩

/-! ### box_of_state, in_box -/
def C_bos : Con := fun ds M Q _ => ∃ hs vs, ds = [dT hs vs] ∧ vs.length ≤ 1000 ∧ Q (.tup [.tup (hs.map .bl), .tup (vs.map dV)]) M
theorem w_bos (ds : List D) (M : Mo) (Q : QE) (X : XQ) (h : C_bos ds M Q X) : vSs [] b_box_of_state (endsOf Q X) (startD 4 ds) M := by
  obtain ⟨hs, vs, rfl, hl, q⟩ := h
  simp (maxSteps := 400000) only [vSs, vS, vE, vEs, vT, vTo, vI, startD, endsOf, List.map_cons, List.map_nil, List.length_cons, List.length_nil, List.replicate, List.cons_append, List.nil_append, Nat.reduceAdd, Nat.reduceSub, Nat.reduceLeDiff, List.getElem?_cons_zero, List.getElem?_cons_succ, Option.some.injEq, exists_eq_left', exists_eq_left, exists_eq', exists_eq, bindT, bindTs, List.set_cons_zero, List.set_cons_succ, ixV, atI0, atI1, atI2, atI3, cmpV, cmpEq, cmpIs, fOp, fCmp, binV, augV, Bi.wp, Bi.val, truD, wipeR, slotsT, slotsTs, Int.cast_ofNat_Int, seqV, seqF, seqL, Option.map_some, D.ref.injEq, D.int.injEq, D.bl.injEq, MO.lst.injEq, exists_and_left, exists_and_right, updM_same, updM_updM, ixN0, ixN1, ixN2, ifB, ifNB, Bool.not_true, Bool.not_false, Bool.false_eq_true, Bool.true_eq_false, if_true, if_false, ite_true, ite_false, true_and, and_true, or_true, true_or, or_false, false_or, false_and, and_false, String.reduceEq, eq_self, decide_true, decide_false, exIf, ne_eq, not_false_eq_true, Nat.zero_le, b_box_of_state, dT]
  simp (maxSteps := 400000) only [vSs, vS, vE, vEs, vT, vTo, vI, startD, endsOf, List.map_cons, List.map_nil, List.length_cons, List.length_nil, List.replicate, List.cons_append, List.nil_append, Nat.reduceAdd, Nat.reduceSub, Nat.reduceLeDiff, List.getElem?_cons_zero, List.getElem?_cons_succ, Option.some.injEq, exists_eq_left', exists_eq_left, exists_eq', exists_eq, bindT, bindTs, List.set_cons_zero, List.set_cons_succ, ixV, atI0, atI1, atI2, atI3, cmpV, cmpEq, cmpIs, fOp, fCmp, binV, augV, Bi.wp, Bi.val, truD, wipeR, slotsT, slotsTs, Int.cast_ofNat_Int, seqV, seqF, seqL, Option.map_some, D.ref.injEq, D.int.injEq, D.bl.injEq, MO.lst.injEq, exists_and_left, exists_and_right, updM_same, updM_updM, ixN0, ixN1, ixN2, ifB, ifNB, Bool.not_true, Bool.not_false, Bool.false_eq_true, Bool.true_eq_false, if_true, if_false, ite_true, ite_false, true_and, and_true, or_true, true_or, or_false, false_or, false_and, and_false, String.reduceEq, eq_self, decide_true, decide_false, exIf, ne_eq, not_false_eq_true, Nat.zero_le, b_box_of_state_1, List.length_map]
  refine ⟨by omega, vComp_map _ dV (fun v _ => ⟨_, rfl, fun N N' h => ?_⟩) ⟨M, Sub.refl _, q⟩⟩
  simp (maxSteps := 400000) only [vSs, vS, vE, vEs, vT, vTo, vI, startD, endsOf, List.map_cons, List.map_nil, List.length_cons, List.length_nil, List.replicate, List.cons_append, List.nil_append, Nat.reduceAdd, Nat.reduceSub, Nat.reduceLeDiff, List.getElem?_cons_zero, List.getElem?_cons_succ, Option.some.injEq, exists_eq_left', exists_eq_left, exists_eq', exists_eq, bindT, bindTs, List.set_cons_zero, List.set_cons_succ, ixV, atI0, atI1, atI2, atI3, cmpV, cmpEq, cmpIs, fOp, fCmp, binV, augV, Bi.wp, Bi.val, truD, wipeR, slotsT, slotsTs, Int.cast_ofNat_Int, seqV, seqF, seqL, Option.map_some, D.ref.injEq, D.int.injEq, D.bl.injEq, MO.lst.injEq, exists_and_left, exists_and_right, updM_same, updM_updM, ixN0, ixN1, ixN2, ifB, ifNB, Bool.not_true, Bool.not_false, Bool.false_eq_true, Bool.true_eq_false, if_true, if_false, ite_true, ite_false, true_and, and_true, or_true, true_or, or_false, false_or, false_and, and_false, String.reduceEq, eq_self, decide_true, decide_false, exIf, ne_eq, not_false_eq_true, Nat.zero_le]
  exact h
abbrev F_lies : Fn := ⟨"lies_in", 2, C_lies⟩
abbrev F_bos : Fn := ⟨"box_of_state", 1, C_bos⟩
theorem w_inbox (ds : List D) (M : Mo) (Q : QE) (X : XQ) (h : C_in ds M Q X) : vSs [F_lies, F_bos] b_in_box (endsOf Q X) (startD 2 ds) M := by
  obtain ⟨hs, vs, es, ss, rfl, hl, q⟩ := h
  simp (maxSteps := 400000) only [vSs, vS, vE, vEs, vT, vTo, vI, startD, endsOf, List.map_cons, List.map_nil, List.length_cons, List.length_nil, List.replicate, List.cons_append, List.nil_append, Nat.reduceAdd, Nat.reduceSub, Nat.reduceLeDiff, List.getElem?_cons_zero, List.getElem?_cons_succ, Option.some.injEq, exists_eq_left', exists_eq_left, exists_eq', exists_eq, bindT, bindTs, List.set_cons_zero, List.set_cons_succ, ixV, atI0, atI1, atI2, atI3, cmpV, cmpEq, cmpIs, fOp, fCmp, binV, augV, Bi.wp, Bi.val, truD, wipeR, slotsT, slotsTs, Int.cast_ofNat_Int, seqV, seqF, seqL, Option.map_some, D.ref.injEq, D.int.injEq, D.bl.injEq, MO.lst.injEq, exists_and_left, exists_and_right, updM_same, updM_updM, ixN0, ixN1, ixN2, ifB, ifNB, Bool.not_true, Bool.not_false, Bool.false_eq_true, Bool.true_eq_false, if_true, if_false, ite_true, ite_false, true_and, and_true, or_true, true_or, or_false, false_or, false_and, and_false, String.reduceEq, eq_self, decide_true, decide_false, exIf, ne_eq, not_false_eq_true, Nat.zero_le, b_in_box]
  exact ⟨hs, vs, rfl, hl, hs, vs, es, ss, rfl, M, Sub.refl _, q⟩

/-! ### the same box -/
def C_isint : Con := fun ds M Q _ => ∃ i, ds = [.int i] ∧ Q (.bl true) M
theorem w_isint (ds : List D) (M : Mo) (Q : QE) (X : XQ) (h : C_isint ds M Q X) : vSs [] b_law_is_integer (endsOf Q X) (startD 1 ds) M := by
  obtain ⟨i, rfl, q⟩ := h
  simp (maxSteps := 400000) only [vSs, vS, vE, vEs, vT, vTo, vI, startD, endsOf, List.map_cons, List.map_nil, List.length_cons, List.length_nil, List.replicate, List.cons_append, List.nil_append, Nat.reduceAdd, Nat.reduceSub, Nat.reduceLeDiff, List.getElem?_cons_zero, List.getElem?_cons_succ, Option.some.injEq, exists_eq_left', exists_eq_left, exists_eq', exists_eq, bindT, bindTs, List.set_cons_zero, List.set_cons_succ, ixV, atI0, atI1, atI2, atI3, cmpV, cmpEq, cmpIs, fOp, fCmp, binV, augV, Bi.wp, Bi.val, truD, wipeR, slotsT, slotsTs, Int.cast_ofNat_Int, seqV, seqF, seqL, Option.map_some, D.ref.injEq, D.int.injEq, D.bl.injEq, MO.lst.injEq, exists_and_left, exists_and_right, updM_same, updM_updM, ixN0, ixN1, ixN2, ifB, ifNB, Bool.not_true, Bool.not_false, Bool.false_eq_true, Bool.true_eq_false, if_true, if_false, ite_true, ite_false, true_and, and_true, or_true, true_or, or_false, false_or, false_and, and_false, String.reduceEq, eq_self, decide_true, decide_false, exIf, ne_eq, not_false_eq_true, Nat.zero_le, b_law_is_integer, instI]
  simpa using ⟨M, Sub.refl _, q⟩
abbrev F_isint : Fn := ⟨"_law_is_integer", 1, C_isint⟩
def C_isspan : Con := fun ds M Q _ => ∃ s, ds = [dS s] ∧ Q (.bl true) M
theorem w_isspan (ds : List D) (M : Mo) (Q : QE) (X : XQ) (h : C_isspan ds M Q X) : vSs [F_isint] b_law_is_span (endsOf Q X) (startD 1 ds) M := by
  obtain ⟨s, rfl, q⟩ := h
  simp (maxSteps := 400000) only [vSs, vS, vE, vEs, vT, vTo, vI, startD, endsOf, List.map_cons, List.map_nil, List.length_cons, List.length_nil, List.replicate, List.cons_append, List.nil_append, Nat.reduceAdd, Nat.reduceSub, Nat.reduceLeDiff, List.getElem?_cons_zero, List.getElem?_cons_succ, Option.some.injEq, exists_eq_left', exists_eq_left, exists_eq', exists_eq, bindT, bindTs, List.set_cons_zero, List.set_cons_succ, ixV, atI0, atI1, atI2, atI3, cmpV, cmpEq, cmpIs, fOp, fCmp, binV, augV, Bi.wp, Bi.val, truD, wipeR, slotsT, slotsTs, Int.cast_ofNat_Int, seqV, seqF, seqL, Option.map_some, D.ref.injEq, D.int.injEq, D.bl.injEq, MO.lst.injEq, exists_and_left, exists_and_right, updM_same, updM_updM, ixN0, ixN1, ixN2, ifB, ifNB, Bool.not_true, Bool.not_false, Bool.false_eq_true, Bool.true_eq_false, if_true, if_false, ite_true, ite_false, true_and, and_true, or_true, true_or, or_false, false_or, false_and, and_false, String.reduceEq, eq_self, decide_true, decide_false, exIf, ne_eq, not_false_eq_true, Nat.zero_le, b_law_is_span, instI, dS]
  simp (maxSteps := 400000) only [vSs, vS, vE, vEs, vT, vTo, vI, startD, endsOf, List.map_cons, List.map_nil, List.length_cons, List.length_nil, List.replicate, List.cons_append, List.nil_append, Nat.reduceAdd, Nat.reduceSub, Nat.reduceLeDiff, List.getElem?_cons_zero, List.getElem?_cons_succ, Option.some.injEq, exists_eq_left', exists_eq_left, exists_eq', exists_eq, bindT, bindTs, List.set_cons_zero, List.set_cons_succ, ixV, atI0, atI1, atI2, atI3, cmpV, cmpEq, cmpIs, fOp, fCmp, binV, augV, Bi.wp, Bi.val, truD, wipeR, slotsT, slotsTs, Int.cast_ofNat_Int, seqV, seqF, seqL, Option.map_some, D.ref.injEq, D.int.injEq, D.bl.injEq, MO.lst.injEq, exists_and_left, exists_and_right, updM_same, updM_updM, ixN0, ixN1, ixN2, ifB, ifNB, Bool.not_true, Bool.not_false, Bool.false_eq_true, Bool.true_eq_false, if_true, if_false, ite_true, ite_false, true_and, and_true, or_true, true_or, or_false, false_or, false_and, and_false, String.reduceEq, eq_self, decide_true, decide_false, exIf, ne_eq, not_false_eq_true, Nat.zero_le, b_law_is_span_2]
  refine ⟨_, rfl, _, rfl, ?_⟩
  simp (maxSteps := 400000) only [vSs, vS, vE, vEs, vT, vTo, vI, startD, endsOf, List.map_cons, List.map_nil, List.length_cons, List.length_nil, List.replicate, List.cons_append, List.nil_append, Nat.reduceAdd, Nat.reduceSub, Nat.reduceLeDiff, List.getElem?_cons_zero, List.getElem?_cons_succ, Option.some.injEq, exists_eq_left', exists_eq_left, exists_eq', exists_eq, bindT, bindTs, List.set_cons_zero, List.set_cons_succ, ixV, atI0, atI1, atI2, atI3, cmpV, cmpEq, cmpIs, fOp, fCmp, binV, augV, Bi.wp, Bi.val, truD, wipeR, slotsT, slotsTs, Int.cast_ofNat_Int, seqV, seqF, seqL, Option.map_some, D.ref.injEq, D.int.injEq, D.bl.injEq, MO.lst.injEq, exists_and_left, exists_and_right, updM_same, updM_updM, ixN0, ixN1, ixN2, ifB, ifNB, Bool.not_true, Bool.not_false, Bool.false_eq_true, Bool.true_eq_false, if_true, if_false, ite_true, ite_false, true_and, and_true, or_true, true_or, or_false, false_or, false_and, and_false, String.reduceEq, eq_self, decide_true, decide_false, exIf, ne_eq, not_false_eq_true, Nat.zero_le]
  exact ⟨_, rfl, M, Sub.refl _, q⟩
abbrev F_isspan : Fn := ⟨"_law_is_span", 1, C_isspan⟩
def C_isbox : Con := fun ds M Q _ => ∃ es ss, ds = [dX es ss, .int es.length, .int ss.length] ∧ (∀ s ∈ ss, s.1 ≤ s.2) ∧ Q (.bl true) M
theorem w_isbox (ds : List D) (M : Mo) (Q : QE) (X : XQ) (h : C_isbox ds M Q X) : vSs [F_isspan] b_law_is_box (endsOf Q X) (startD 5 ds) M := by
  obtain ⟨es, ss, rfl, ok, q⟩ := h
  simp (maxSteps := 400000) only [vSs, vS, vE, vEs, vT, vTo, vI, startD, endsOf, List.map_cons, List.map_nil, List.length_cons, List.length_nil, List.replicate, List.cons_append, List.nil_append, Nat.reduceAdd, Nat.reduceSub, Nat.reduceLeDiff, List.getElem?_cons_zero, List.getElem?_cons_succ, Option.some.injEq, exists_eq_left', exists_eq_left, exists_eq', exists_eq, bindT, bindTs, List.set_cons_zero, List.set_cons_succ, ixV, atI0, atI1, atI2, atI3, cmpV, cmpEq, cmpIs, fOp, fCmp, binV, augV, Bi.wp, Bi.val, truD, wipeR, slotsT, slotsTs, Int.cast_ofNat_Int, seqV, seqF, seqL, Option.map_some, D.ref.injEq, D.int.injEq, D.bl.injEq, MO.lst.injEq, exists_and_left, exists_and_right, updM_same, updM_updM, ixN0, ixN1, ixN2, ifB, ifNB, Bool.not_true, Bool.not_false, Bool.false_eq_true, Bool.true_eq_false, if_true, if_false, ite_true, ite_false, true_and, and_true, or_true, true_or, or_false, false_or, false_and, and_false, String.reduceEq, eq_self, decide_true, decide_false, exIf, ne_eq, not_false_eq_true, Nat.zero_le, b_law_is_box, instI, dX]
  simp (maxSteps := 400000) only [vSs, vS, vE, vEs, vT, vTo, vI, startD, endsOf, List.map_cons, List.map_nil, List.length_cons, List.length_nil, List.replicate, List.cons_append, List.nil_append, Nat.reduceAdd, Nat.reduceSub, Nat.reduceLeDiff, List.getElem?_cons_zero, List.getElem?_cons_succ, Option.some.injEq, exists_eq_left', exists_eq_left, exists_eq', exists_eq, bindT, bindTs, List.set_cons_zero, List.set_cons_succ, ixV, atI0, atI1, atI2, atI3, cmpV, cmpEq, cmpIs, fOp, fCmp, binV, augV, Bi.wp, Bi.val, truD, wipeR, slotsT, slotsTs, Int.cast_ofNat_Int, seqV, seqF, seqL, Option.map_some, D.ref.injEq, D.int.injEq, D.bl.injEq, MO.lst.injEq, exists_and_left, exists_and_right, updM_same, updM_updM, ixN0, ixN1, ixN2, ifB, ifNB, Bool.not_true, Bool.not_false, Bool.false_eq_true, Bool.true_eq_false, if_true, if_false, ite_true, ite_false, true_and, and_true, or_true, true_or, or_false, false_or, false_and, and_false, String.reduceEq, eq_self, decide_true, decide_false, exIf, ne_eq, not_false_eq_true, Nat.zero_le, b_law_is_box_12, instI]
  simp (maxSteps := 400000) only [vSs, vS, vE, vEs, vT, vTo, vI, startD, endsOf, List.map_cons, List.map_nil, List.length_cons, List.length_nil, List.replicate, List.cons_append, List.nil_append, Nat.reduceAdd, Nat.reduceSub, Nat.reduceLeDiff, List.getElem?_cons_zero, List.getElem?_cons_succ, Option.some.injEq, exists_eq_left', exists_eq_left, exists_eq', exists_eq, bindT, bindTs, List.set_cons_zero, List.set_cons_succ, ixV, atI0, atI1, atI2, atI3, cmpV, cmpEq, cmpIs, fOp, fCmp, binV, augV, Bi.wp, Bi.val, truD, wipeR, slotsT, slotsTs, Int.cast_ofNat_Int, seqV, seqF, seqL, Option.map_some, D.ref.injEq, D.int.injEq, D.bl.injEq, MO.lst.injEq, exists_and_left, exists_and_right, updM_same, updM_updM, ixN0, ixN1, ixN2, ifB, ifNB, Bool.not_true, Bool.not_false, Bool.false_eq_true, Bool.true_eq_false, if_true, if_false, ite_true, ite_false, true_and, and_true, or_true, true_or, or_false, false_or, false_and, and_false, String.reduceEq, eq_self, decide_true, decide_false, exIf, ne_eq, not_false_eq_true, Nat.zero_le, b_law_is_box_11, List.length_map]
  simp (maxSteps := 400000) only [vSs, vS, vE, vEs, vT, vTo, vI, startD, endsOf, List.map_cons, List.map_nil, List.length_cons, List.length_nil, List.replicate, List.cons_append, List.nil_append, Nat.reduceAdd, Nat.reduceSub, Nat.reduceLeDiff, List.getElem?_cons_zero, List.getElem?_cons_succ, Option.some.injEq, exists_eq_left', exists_eq_left, exists_eq', exists_eq, bindT, bindTs, List.set_cons_zero, List.set_cons_succ, ixV, atI0, atI1, atI2, atI3, cmpV, cmpEq, cmpIs, fOp, fCmp, binV, augV, Bi.wp, Bi.val, truD, wipeR, slotsT, slotsTs, Int.cast_ofNat_Int, seqV, seqF, seqL, Option.map_some, D.ref.injEq, D.int.injEq, D.bl.injEq, MO.lst.injEq, exists_and_left, exists_and_right, updM_same, updM_updM, ixN0, ixN1, ixN2, ifB, ifNB, Bool.not_true, Bool.not_false, Bool.false_eq_true, Bool.true_eq_false, if_true, if_false, ite_true, ite_false, true_and, and_true, or_true, true_or, or_false, false_or, false_and, and_false, String.reduceEq, eq_self, decide_true, decide_false, exIf, ne_eq, not_false_eq_true, Nat.zero_le, b_law_is_box_10]
  refine vFor_keep _ (fun ρ => ∃ x, ρ = [some (D.tup [D.tup (es.map dB), D.tup (ss.map dS)]), some (.int es.length), some (.int ss.length), x, none]) ⟨_, rfl⟩ ?_ ?_
  · rintro e he ρ ⟨x, rfl⟩
    refine ⟨_, rfl, fun N hN => ?_⟩
    cases e with
    | none => simp (maxSteps := 400000) only [vSs, vS, vE, vEs, vT, vTo, vI, startD, endsOf, List.map_cons, List.map_nil, List.length_cons, List.length_nil, List.replicate, List.cons_append, List.nil_append, Nat.reduceAdd, Nat.reduceSub, Nat.reduceLeDiff, List.getElem?_cons_zero, List.getElem?_cons_succ, Option.some.injEq, exists_eq_left', exists_eq_left, exists_eq', exists_eq, bindT, bindTs, List.set_cons_zero, List.set_cons_succ, ixV, atI0, atI1, atI2, atI3, cmpV, cmpEq, cmpIs, fOp, fCmp, binV, augV, Bi.wp, Bi.val, truD, wipeR, slotsT, slotsTs, Int.cast_ofNat_Int, seqV, seqF, seqL, Option.map_some, D.ref.injEq, D.int.injEq, D.bl.injEq, MO.lst.injEq, exists_and_left, exists_and_right, updM_same, updM_updM, ixN0, ixN1, ixN2, ifB, ifNB, Bool.not_true, Bool.not_false, Bool.false_eq_true, Bool.true_eq_false, if_true, if_false, ite_true, ite_false, true_and, and_true, or_true, true_or, or_false, false_or, false_and, and_false, String.reduceEq, eq_self, decide_true, decide_false, exIf, ne_eq, not_false_eq_true, Nat.zero_le, b_law_is_box_5, instI, dB]; exact hN _ ⟨_, rfl⟩
    | some v => simp (maxSteps := 400000) only [vSs, vS, vE, vEs, vT, vTo, vI, startD, endsOf, List.map_cons, List.map_nil, List.length_cons, List.length_nil, List.replicate, List.cons_append, List.nil_append, Nat.reduceAdd, Nat.reduceSub, Nat.reduceLeDiff, List.getElem?_cons_zero, List.getElem?_cons_succ, Option.some.injEq, exists_eq_left', exists_eq_left, exists_eq', exists_eq, bindT, bindTs, List.set_cons_zero, List.set_cons_succ, ixV, atI0, atI1, atI2, atI3, cmpV, cmpEq, cmpIs, fOp, fCmp, binV, augV, Bi.wp, Bi.val, truD, wipeR, slotsT, slotsTs, Int.cast_ofNat_Int, seqV, seqF, seqL, Option.map_some, D.ref.injEq, D.int.injEq, D.bl.injEq, MO.lst.injEq, exists_and_left, exists_and_right, updM_same, updM_updM, ixN0, ixN1, ixN2, ifB, ifNB, Bool.not_true, Bool.not_false, Bool.false_eq_true, Bool.true_eq_false, if_true, if_false, ite_true, ite_false, true_and, and_true, or_true, true_or, or_false, false_or, false_and, and_false, String.reduceEq, eq_self, decide_true, decide_false, exIf, ne_eq, not_false_eq_true, Nat.zero_le, b_law_is_box_5, instI, dB]; exact hN _ ⟨_, rfl⟩
  · rintro ρ ⟨x, rfl⟩
    simp (maxSteps := 400000) only [vSs, vS, vE, vEs, vT, vTo, vI, startD, endsOf, List.map_cons, List.map_nil, List.length_cons, List.length_nil, List.replicate, List.cons_append, List.nil_append, Nat.reduceAdd, Nat.reduceSub, Nat.reduceLeDiff, List.getElem?_cons_zero, List.getElem?_cons_succ, Option.some.injEq, exists_eq_left', exists_eq_left, exists_eq', exists_eq, bindT, bindTs, List.set_cons_zero, List.set_cons_succ, ixV, atI0, atI1, atI2, atI3, cmpV, cmpEq, cmpIs, fOp, fCmp, binV, augV, Bi.wp, Bi.val, truD, wipeR, slotsT, slotsTs, Int.cast_ofNat_Int, seqV, seqF, seqL, Option.map_some, D.ref.injEq, D.int.injEq, D.bl.injEq, MO.lst.injEq, exists_and_left, exists_and_right, updM_same, updM_updM, ixN0, ixN1, ixN2, ifB, ifNB, Bool.not_true, Bool.not_false, Bool.false_eq_true, Bool.true_eq_false, if_true, if_false, ite_true, ite_false, true_and, and_true, or_true, true_or, or_false, false_or, false_and, and_false, String.reduceEq, eq_self, decide_true, decide_false, exIf, ne_eq, not_false_eq_true, Nat.zero_le, b_law_is_box_9]
    refine vFor_keep _ (fun ρ => ∃ y, ρ = [some (D.tup [D.tup (es.map dB), D.tup (ss.map dS)]), some (.int es.length), some (.int ss.length), x, y]) ⟨_, rfl⟩ ?_ ?_
    · rintro s hs ρ ⟨y, rfl⟩
      refine ⟨_, rfl, fun N hN => ?_⟩
      simp (maxSteps := 400000) only [vSs, vS, vE, vEs, vT, vTo, vI, startD, endsOf, List.map_cons, List.map_nil, List.length_cons, List.length_nil, List.replicate, List.cons_append, List.nil_append, Nat.reduceAdd, Nat.reduceSub, Nat.reduceLeDiff, List.getElem?_cons_zero, List.getElem?_cons_succ, Option.some.injEq, exists_eq_left', exists_eq_left, exists_eq', exists_eq, bindT, bindTs, List.set_cons_zero, List.set_cons_succ, ixV, atI0, atI1, atI2, atI3, cmpV, cmpEq, cmpIs, fOp, fCmp, binV, augV, Bi.wp, Bi.val, truD, wipeR, slotsT, slotsTs, Int.cast_ofNat_Int, seqV, seqF, seqL, Option.map_some, D.ref.injEq, D.int.injEq, D.bl.injEq, MO.lst.injEq, exists_and_left, exists_and_right, updM_same, updM_updM, ixN0, ixN1, ixN2, ifB, ifNB, Bool.not_true, Bool.not_false, Bool.false_eq_true, Bool.true_eq_false, if_true, if_false, ite_true, ite_false, true_and, and_true, or_true, true_or, or_false, false_or, false_and, and_false, String.reduceEq, eq_self, decide_true, decide_false, exIf, ne_eq, not_false_eq_true, Nat.zero_le, b_law_is_box_7]
      refine ⟨s, rfl, ?_⟩
      simp (maxSteps := 400000) only [vSs, vS, vE, vEs, vT, vTo, vI, startD, endsOf, List.map_cons, List.map_nil, List.length_cons, List.length_nil, List.replicate, List.cons_append, List.nil_append, Nat.reduceAdd, Nat.reduceSub, Nat.reduceLeDiff, List.getElem?_cons_zero, List.getElem?_cons_succ, Option.some.injEq, exists_eq_left', exists_eq_left, exists_eq', exists_eq, bindT, bindTs, List.set_cons_zero, List.set_cons_succ, ixV, atI0, atI1, atI2, atI3, cmpV, cmpEq, cmpIs, fOp, fCmp, binV, augV, Bi.wp, Bi.val, truD, wipeR, slotsT, slotsTs, Int.cast_ofNat_Int, seqV, seqF, seqL, Option.map_some, D.ref.injEq, D.int.injEq, D.bl.injEq, MO.lst.injEq, exists_and_left, exists_and_right, updM_same, updM_updM, ixN0, ixN1, ixN2, ifB, ifNB, Bool.not_true, Bool.not_false, Bool.false_eq_true, Bool.true_eq_false, if_true, if_false, ite_true, ite_false, true_and, and_true, or_true, true_or, or_false, false_or, false_and, and_false, String.reduceEq, eq_self, decide_true, decide_false, exIf, ne_eq, not_false_eq_true, Nat.zero_le, dS, Int.not_lt.mpr (ok s hs)]
      exact hN _ ⟨_, rfl⟩
    · rintro ρ ⟨y, rfl⟩
      simp (maxSteps := 400000) only [vSs, vS, vE, vEs, vT, vTo, vI, startD, endsOf, List.map_cons, List.map_nil, List.length_cons, List.length_nil, List.replicate, List.cons_append, List.nil_append, Nat.reduceAdd, Nat.reduceSub, Nat.reduceLeDiff, List.getElem?_cons_zero, List.getElem?_cons_succ, Option.some.injEq, exists_eq_left', exists_eq_left, exists_eq', exists_eq, bindT, bindTs, List.set_cons_zero, List.set_cons_succ, ixV, atI0, atI1, atI2, atI3, cmpV, cmpEq, cmpIs, fOp, fCmp, binV, augV, Bi.wp, Bi.val, truD, wipeR, slotsT, slotsTs, Int.cast_ofNat_Int, seqV, seqF, seqL, Option.map_some, D.ref.injEq, D.int.injEq, D.bl.injEq, MO.lst.injEq, exists_and_left, exists_and_right, updM_same, updM_updM, ixN0, ixN1, ixN2, ifB, ifNB, Bool.not_true, Bool.not_false, Bool.false_eq_true, Bool.true_eq_false, if_true, if_false, ite_true, ite_false, true_and, and_true, or_true, true_or, or_false, false_or, false_and, and_false, String.reduceEq, eq_self, decide_true, decide_false, exIf, ne_eq, not_false_eq_true, Nat.zero_le, b_law_is_box_8]
      exact ⟨M, Sub.refl _, q⟩
abbrev F_isbox : Fn := ⟨"_law_is_box", 3, C_isbox⟩
def C_same : Con := fun ds M Q _ => ∃ b, ds = [dOX b, dOX b] ∧ (∀ x, b = some x → ∀ s ∈ x.2, s.1 ≤ s.2) ∧ Q (.bl true) M
theorem w_same (ds : List D) (M : Mo) (Q : QE) (X : XQ) (h : C_same ds M Q X) : vSs [F_isbox] b_law_box_same (endsOf Q X) (startD 4 ds) M := by
  obtain ⟨b, rfl, ok, q⟩ := h
  cases b with
  | none =>
    simp (maxSteps := 400000) only [vSs, vS, vE, vEs, vT, vTo, vI, startD, endsOf, List.map_cons, List.map_nil, List.length_cons, List.length_nil, List.replicate, List.cons_append, List.nil_append, Nat.reduceAdd, Nat.reduceSub, Nat.reduceLeDiff, List.getElem?_cons_zero, List.getElem?_cons_succ, Option.some.injEq, exists_eq_left', exists_eq_left, exists_eq', exists_eq, bindT, bindTs, List.set_cons_zero, List.set_cons_succ, ixV, atI0, atI1, atI2, atI3, cmpV, cmpEq, cmpIs, fOp, fCmp, binV, augV, Bi.wp, Bi.val, truD, wipeR, slotsT, slotsTs, Int.cast_ofNat_Int, seqV, seqF, seqL, Option.map_some, D.ref.injEq, D.int.injEq, D.bl.injEq, MO.lst.injEq, exists_and_left, exists_and_right, updM_same, updM_updM, ixN0, ixN1, ixN2, ifB, ifNB, Bool.not_true, Bool.not_false, Bool.false_eq_true, Bool.true_eq_false, if_true, if_false, ite_true, ite_false, true_and, and_true, or_true, true_or, or_false, false_or, false_and, and_false, String.reduceEq, eq_self, decide_true, decide_false, exIf, ne_eq, not_false_eq_true, Nat.zero_le, b_law_box_same, b_law_box_same_1, dOX]
    exact ⟨M, Sub.refl _, q⟩
  | some b =>
    obtain ⟨es, ss⟩ := b
    simp (maxSteps := 400000) only [vSs, vS, vE, vEs, vT, vTo, vI, startD, endsOf, List.map_cons, List.map_nil, List.length_cons, List.length_nil, List.replicate, List.cons_append, List.nil_append, Nat.reduceAdd, Nat.reduceSub, Nat.reduceLeDiff, List.getElem?_cons_zero, List.getElem?_cons_succ, Option.some.injEq, exists_eq_left', exists_eq_left, exists_eq', exists_eq, bindT, bindTs, List.set_cons_zero, List.set_cons_succ, ixV, atI0, atI1, atI2, atI3, cmpV, cmpEq, cmpIs, fOp, fCmp, binV, augV, Bi.wp, Bi.val, truD, wipeR, slotsT, slotsTs, Int.cast_ofNat_Int, seqV, seqF, seqL, Option.map_some, D.ref.injEq, D.int.injEq, D.bl.injEq, MO.lst.injEq, exists_and_left, exists_and_right, updM_same, updM_updM, ixN0, ixN1, ixN2, ifB, ifNB, Bool.not_true, Bool.not_false, Bool.false_eq_true, Bool.true_eq_false, if_true, if_false, ite_true, ite_false, true_and, and_true, or_true, true_or, or_false, false_or, false_and, and_false, String.reduceEq, eq_self, decide_true, decide_false, exIf, ne_eq, not_false_eq_true, Nat.zero_le, b_law_box_same, dOX, dX]
    simp (maxSteps := 400000) only [vSs, vS, vE, vEs, vT, vTo, vI, startD, endsOf, List.map_cons, List.map_nil, List.length_cons, List.length_nil, List.replicate, List.cons_append, List.nil_append, Nat.reduceAdd, Nat.reduceSub, Nat.reduceLeDiff, List.getElem?_cons_zero, List.getElem?_cons_succ, Option.some.injEq, exists_eq_left', exists_eq_left, exists_eq', exists_eq, bindT, bindTs, List.set_cons_zero, List.set_cons_succ, ixV, atI0, atI1, atI2, atI3, cmpV, cmpEq, cmpIs, fOp, fCmp, binV, augV, Bi.wp, Bi.val, truD, wipeR, slotsT, slotsTs, Int.cast_ofNat_Int, seqV, seqF, seqL, Option.map_some, D.ref.injEq, D.int.injEq, D.bl.injEq, MO.lst.injEq, exists_and_left, exists_and_right, updM_same, updM_updM, ixN0, ixN1, ixN2, ifB, ifNB, Bool.not_true, Bool.not_false, Bool.false_eq_true, Bool.true_eq_false, if_true, if_false, ite_true, ite_false, true_and, and_true, or_true, true_or, or_false, false_or, false_and, and_false, String.reduceEq, eq_self, decide_true, decide_false, exIf, ne_eq, not_false_eq_true, Nat.zero_le, b_law_box_same_10, List.length_map]
    refine ⟨es, ss, rfl, ok _ rfl, ?_⟩
    simp (maxSteps := 400000) only [vSs, vS, vE, vEs, vT, vTo, vI, startD, endsOf, List.map_cons, List.map_nil, List.length_cons, List.length_nil, List.replicate, List.cons_append, List.nil_append, Nat.reduceAdd, Nat.reduceSub, Nat.reduceLeDiff, List.getElem?_cons_zero, List.getElem?_cons_succ, Option.some.injEq, exists_eq_left', exists_eq_left, exists_eq', exists_eq, bindT, bindTs, List.set_cons_zero, List.set_cons_succ, ixV, atI0, atI1, atI2, atI3, cmpV, cmpEq, cmpIs, fOp, fCmp, binV, augV, Bi.wp, Bi.val, truD, wipeR, slotsT, slotsTs, Int.cast_ofNat_Int, seqV, seqF, seqL, Option.map_some, D.ref.injEq, D.int.injEq, D.bl.injEq, MO.lst.injEq, exists_and_left, exists_and_right, updM_same, updM_updM, ixN0, ixN1, ixN2, ifB, ifNB, Bool.not_true, Bool.not_false, Bool.false_eq_true, Bool.true_eq_false, if_true, if_false, ite_true, ite_false, true_and, and_true, or_true, true_or, or_false, false_or, false_and, and_false, String.reduceEq, eq_self, decide_true, decide_false, exIf, ne_eq, not_false_eq_true, Nat.zero_le, b_law_box_same_9]
    rw [zipWith_same]
    refine vFor_keep _ (fun ρ => ∃ x y, ρ = [some (D.tup [D.tup (es.map dB), D.tup (ss.map dS)]), some (D.tup [D.tup (es.map dB), D.tup (ss.map dS)]), x, y]) ⟨_, _, rfl⟩ ?_ ?_
    · rintro e he ρ ⟨_, _, rfl⟩
      refine ⟨_, rfl, fun N hN => ?_⟩
      cases e with
      | none => simp (maxSteps := 400000) only [vSs, vS, vE, vEs, vT, vTo, vI, startD, endsOf, List.map_cons, List.map_nil, List.length_cons, List.length_nil, List.replicate, List.cons_append, List.nil_append, Nat.reduceAdd, Nat.reduceSub, Nat.reduceLeDiff, List.getElem?_cons_zero, List.getElem?_cons_succ, Option.some.injEq, exists_eq_left', exists_eq_left, exists_eq', exists_eq, bindT, bindTs, List.set_cons_zero, List.set_cons_succ, ixV, atI0, atI1, atI2, atI3, cmpV, cmpEq, cmpIs, fOp, fCmp, binV, augV, Bi.wp, Bi.val, truD, wipeR, slotsT, slotsTs, Int.cast_ofNat_Int, seqV, seqF, seqL, Option.map_some, D.ref.injEq, D.int.injEq, D.bl.injEq, MO.lst.injEq, exists_and_left, exists_and_right, updM_same, updM_updM, ixN0, ixN1, ixN2, ifB, ifNB, Bool.not_true, Bool.not_false, Bool.false_eq_true, Bool.true_eq_false, if_true, if_false, ite_true, ite_false, true_and, and_true, or_true, true_or, or_false, false_or, false_and, and_false, String.reduceEq, eq_self, decide_true, decide_false, exIf, ne_eq, not_false_eq_true, Nat.zero_le, b_law_box_same_4, prD, dB]; exact hN _ ⟨_, _, rfl⟩
      | some v => simp (maxSteps := 400000) only [vSs, vS, vE, vEs, vT, vTo, vI, startD, endsOf, List.map_cons, List.map_nil, List.length_cons, List.length_nil, List.replicate, List.cons_append, List.nil_append, Nat.reduceAdd, Nat.reduceSub, Nat.reduceLeDiff, List.getElem?_cons_zero, List.getElem?_cons_succ, Option.some.injEq, exists_eq_left', exists_eq_left, exists_eq', exists_eq, bindT, bindTs, List.set_cons_zero, List.set_cons_succ, ixV, atI0, atI1, atI2, atI3, cmpV, cmpEq, cmpIs, fOp, fCmp, binV, augV, Bi.wp, Bi.val, truD, wipeR, slotsT, slotsTs, Int.cast_ofNat_Int, seqV, seqF, seqL, Option.map_some, D.ref.injEq, D.int.injEq, D.bl.injEq, MO.lst.injEq, exists_and_left, exists_and_right, updM_same, updM_updM, ixN0, ixN1, ixN2, ifB, ifNB, Bool.not_true, Bool.not_false, Bool.false_eq_true, Bool.true_eq_false, if_true, if_false, ite_true, ite_false, true_and, and_true, or_true, true_or, or_false, false_or, false_and, and_false, String.reduceEq, eq_self, decide_true, decide_false, exIf, ne_eq, not_false_eq_true, Nat.zero_le, b_law_box_same_4, prD, dB]; exact hN _ ⟨_, _, rfl⟩
    · rintro ρ ⟨_, _, rfl⟩
      simp (maxSteps := 400000) only [vSs, vS, vE, vEs, vT, vTo, vI, startD, endsOf, List.map_cons, List.map_nil, List.length_cons, List.length_nil, List.replicate, List.cons_append, List.nil_append, Nat.reduceAdd, Nat.reduceSub, Nat.reduceLeDiff, List.getElem?_cons_zero, List.getElem?_cons_succ, Option.some.injEq, exists_eq_left', exists_eq_left, exists_eq', exists_eq, bindT, bindTs, List.set_cons_zero, List.set_cons_succ, ixV, atI0, atI1, atI2, atI3, cmpV, cmpEq, cmpIs, fOp, fCmp, binV, augV, Bi.wp, Bi.val, truD, wipeR, slotsT, slotsTs, Int.cast_ofNat_Int, seqV, seqF, seqL, Option.map_some, D.ref.injEq, D.int.injEq, D.bl.injEq, MO.lst.injEq, exists_and_left, exists_and_right, updM_same, updM_updM, ixN0, ixN1, ixN2, ifB, ifNB, Bool.not_true, Bool.not_false, Bool.false_eq_true, Bool.true_eq_false, if_true, if_false, ite_true, ite_false, true_and, and_true, or_true, true_or, or_false, false_or, false_and, and_false, String.reduceEq, eq_self, decide_true, decide_false, exIf, ne_eq, not_false_eq_true, Nat.zero_le, b_law_box_same_8, zipWith_same]
      refine vFor_keep _ (fun ρ => ∃ x y, ρ = [some (D.tup [D.tup (es.map dB), D.tup (ss.map dS)]), some (D.tup [D.tup (es.map dB), D.tup (ss.map dS)]), x, y]) ⟨_, _, rfl⟩ ?_ ?_
      · rintro s hs ρ ⟨_, _, rfl⟩
        refine ⟨_, rfl, fun N hN => ?_⟩
        simp (maxSteps := 400000) only [vSs, vS, vE, vEs, vT, vTo, vI, startD, endsOf, List.map_cons, List.map_nil, List.length_cons, List.length_nil, List.replicate, List.cons_append, List.nil_append, Nat.reduceAdd, Nat.reduceSub, Nat.reduceLeDiff, List.getElem?_cons_zero, List.getElem?_cons_succ, Option.some.injEq, exists_eq_left', exists_eq_left, exists_eq', exists_eq, bindT, bindTs, List.set_cons_zero, List.set_cons_succ, ixV, atI0, atI1, atI2, atI3, cmpV, cmpEq, cmpIs, fOp, fCmp, binV, augV, Bi.wp, Bi.val, truD, wipeR, slotsT, slotsTs, Int.cast_ofNat_Int, seqV, seqF, seqL, Option.map_some, D.ref.injEq, D.int.injEq, D.bl.injEq, MO.lst.injEq, exists_and_left, exists_and_right, updM_same, updM_updM, ixN0, ixN1, ixN2, ifB, ifNB, Bool.not_true, Bool.not_false, Bool.false_eq_true, Bool.true_eq_false, if_true, if_false, ite_true, ite_false, true_and, and_true, or_true, true_or, or_false, false_or, false_and, and_false, String.reduceEq, eq_self, decide_true, decide_false, exIf, ne_eq, not_false_eq_true, Nat.zero_le, b_law_box_same_6, prD, dS]
        exact hN _ ⟨_, _, rfl⟩
      · rintro ρ ⟨_, _, rfl⟩
        simp (maxSteps := 400000) only [vSs, vS, vE, vEs, vT, vTo, vI, startD, endsOf, List.map_cons, List.map_nil, List.length_cons, List.length_nil, List.replicate, List.cons_append, List.nil_append, Nat.reduceAdd, Nat.reduceSub, Nat.reduceLeDiff, List.getElem?_cons_zero, List.getElem?_cons_succ, Option.some.injEq, exists_eq_left', exists_eq_left, exists_eq', exists_eq, bindT, bindTs, List.set_cons_zero, List.set_cons_succ, ixV, atI0, atI1, atI2, atI3, cmpV, cmpEq, cmpIs, fOp, fCmp, binV, augV, Bi.wp, Bi.val, truD, wipeR, slotsT, slotsTs, Int.cast_ofNat_Int, seqV, seqF, seqL, Option.map_some, D.ref.injEq, D.int.injEq, D.bl.injEq, MO.lst.injEq, exists_and_left, exists_and_right, updM_same, updM_updM, ixN0, ixN1, ixN2, ifB, ifNB, Bool.not_true, Bool.not_false, Bool.false_eq_true, Bool.true_eq_false, if_true, if_false, ite_true, ite_false, true_and, and_true, or_true, true_or, or_false, false_or, false_and, and_false, String.reduceEq, eq_self, decide_true, decide_false, exIf, ne_eq, not_false_eq_true, Nat.zero_le, b_law_box_same_7]
        exact ⟨M, Sub.refl _, q⟩
end K19
namespace K19
open PySem PySem.Spec PyProof.Rows L2 Vp
abbrev Gs := [F_next]

/-! ### what is drawn -/
def C_sizes : Con := fun ds M Q _ => ∃ p ns, ds = [.ref p] ∧ Stream M p ns ∧ ∀ (f n : Int) M', 0 ≤ f → f ≤ 120 → 0 ≤ n → n ≤ 30 → Mv M M' p ns → Q (.tup [.int f, .int n]) M'
theorem w_sizes (ds : List D) (M : Mo) (Q : QE) (X : XQ) (h : C_sizes ds M Q X) : vSs [F_next] b_law_sizes (endsOf Q X) (startD 3 ds) M := by
  obtain ⟨p, ns, rfl, hs, q⟩ := h
  simp (maxSteps := 400000) only [vSs, vS, vE, vEs, vT, vTo, vI, startD, endsOf, List.map_cons, List.map_nil, List.length_cons, List.length_nil, List.replicate, List.cons_append, List.nil_append, Nat.reduceAdd, Nat.reduceSub, Nat.reduceLeDiff, List.getElem?_cons_zero, List.getElem?_cons_succ, Option.some.injEq, exists_eq_left', exists_eq_left, exists_eq', exists_eq, bindT, bindTs, List.set_cons_zero, List.set_cons_succ, ixV, atI0, atI1, atI2, atI3, cmpV, cmpEq, cmpIs, fOp, fCmp, binV, augV, Bi.wp, Bi.val, truD, wipeR, slotsT, slotsTs, Int.cast_ofNat_Int, seqV, seqF, seqL, Option.map_some, D.ref.injEq, D.int.injEq, D.bl.injEq, MO.lst.injEq, exists_and_left, exists_and_right, updM_same, updM_updM, ixN0, ixN1, ixN2, ifB, ifNB, Bool.not_true, Bool.not_false, Bool.false_eq_true, Bool.true_eq_false, if_true, if_false, ite_true, ite_false, true_and, and_true, or_true, true_or, or_false, false_or, false_and, and_false, String.reduceEq, eq_self, decide_true, decide_false, exIf, ne_eq, not_false_eq_true, Nat.zero_le, b_law_sizes]
  refine use_next hs (by decide) (by decide) fun f M1 f0 f1 m1 => ?_
  simp (maxSteps := 400000) only [vSs, vS, vE, vEs, vT, vTo, vI, startD, endsOf, List.map_cons, List.map_nil, List.length_cons, List.length_nil, List.replicate, List.cons_append, List.nil_append, Nat.reduceAdd, Nat.reduceSub, Nat.reduceLeDiff, List.getElem?_cons_zero, List.getElem?_cons_succ, Option.some.injEq, exists_eq_left', exists_eq_left, exists_eq', exists_eq, bindT, bindTs, List.set_cons_zero, List.set_cons_succ, ixV, atI0, atI1, atI2, atI3, cmpV, cmpEq, cmpIs, fOp, fCmp, binV, augV, Bi.wp, Bi.val, truD, wipeR, slotsT, slotsTs, Int.cast_ofNat_Int, seqV, seqF, seqL, Option.map_some, D.ref.injEq, D.int.injEq, D.bl.injEq, MO.lst.injEq, exists_and_left, exists_and_right, updM_same, updM_updM, ixN0, ixN1, ixN2, ifB, ifNB, Bool.not_true, Bool.not_false, Bool.false_eq_true, Bool.true_eq_false, if_true, if_false, ite_true, ite_false, true_and, and_true, or_true, true_or, or_false, false_or, false_and, and_false, String.reduceEq, eq_self, decide_true, decide_false, exIf, ne_eq, not_false_eq_true, Nat.zero_le, b_law_sizes_5]
  refine use_next m1.2 (by decide) (by decide) fun n M2 n0 n1 m2 => ?_
  simp (maxSteps := 400000) only [vSs, vS, vE, vEs, vT, vTo, vI, startD, endsOf, List.map_cons, List.map_nil, List.length_cons, List.length_nil, List.replicate, List.cons_append, List.nil_append, Nat.reduceAdd, Nat.reduceSub, Nat.reduceLeDiff, List.getElem?_cons_zero, List.getElem?_cons_succ, Option.some.injEq, exists_eq_left', exists_eq_left, exists_eq', exists_eq, bindT, bindTs, List.set_cons_zero, List.set_cons_succ, ixV, atI0, atI1, atI2, atI3, cmpV, cmpEq, cmpIs, fOp, fCmp, binV, augV, Bi.wp, Bi.val, truD, wipeR, slotsT, slotsTs, Int.cast_ofNat_Int, seqV, seqF, seqL, Option.map_some, D.ref.injEq, D.int.injEq, D.bl.injEq, MO.lst.injEq, exists_and_left, exists_and_right, updM_same, updM_updM, ixN0, ixN1, ixN2, ifB, ifNB, Bool.not_true, Bool.not_false, Bool.false_eq_true, Bool.true_eq_false, if_true, if_false, ite_true, ite_false, true_and, and_true, or_true, true_or, or_false, false_or, false_and, and_false, String.reduceEq, eq_self, decide_true, decide_false, exIf, ne_eq, not_false_eq_true, Nat.zero_le, b_law_sizes_4]
  refine use_next m2.2 (by decide) (by decide) fun r M3 r0 r1 m3 => ?_
  have m := (m1.trans m2).trans m3
  simp (maxSteps := 400000) only [vSs, vS, vE, vEs, vT, vTo, vI, startD, endsOf, List.map_cons, List.map_nil, List.length_cons, List.length_nil, List.replicate, List.cons_append, List.nil_append, Nat.reduceAdd, Nat.reduceSub, Nat.reduceLeDiff, List.getElem?_cons_zero, List.getElem?_cons_succ, Option.some.injEq, exists_eq_left', exists_eq_left, exists_eq', exists_eq, bindT, bindTs, List.set_cons_zero, List.set_cons_succ, ixV, atI0, atI1, atI2, atI3, cmpV, cmpEq, cmpIs, fOp, fCmp, binV, augV, Bi.wp, Bi.val, truD, wipeR, slotsT, slotsTs, Int.cast_ofNat_Int, seqV, seqF, seqL, Option.map_some, D.ref.injEq, D.int.injEq, D.bl.injEq, MO.lst.injEq, exists_and_left, exists_and_right, updM_same, updM_updM, ixN0, ixN1, ixN2, ifB, ifNB, Bool.not_true, Bool.not_false, Bool.false_eq_true, Bool.true_eq_false, if_true, if_false, ite_true, ite_false, true_and, and_true, or_true, true_or, or_false, false_or, false_and, and_false, String.reduceEq, eq_self, decide_true, decide_false, exIf, ne_eq, not_false_eq_true, Nat.zero_le]
  refine iteI (fun _ => ?_) (fun _ => ?_)
  · simp (maxSteps := 400000) only [vSs, vS, vE, vEs, vT, vTo, vI, startD, endsOf, List.map_cons, List.map_nil, List.length_cons, List.length_nil, List.replicate, List.cons_append, List.nil_append, Nat.reduceAdd, Nat.reduceSub, Nat.reduceLeDiff, List.getElem?_cons_zero, List.getElem?_cons_succ, Option.some.injEq, exists_eq_left', exists_eq_left, exists_eq', exists_eq, bindT, bindTs, List.set_cons_zero, List.set_cons_succ, ixV, atI0, atI1, atI2, atI3, cmpV, cmpEq, cmpIs, fOp, fCmp, binV, augV, Bi.wp, Bi.val, truD, wipeR, slotsT, slotsTs, Int.cast_ofNat_Int, seqV, seqF, seqL, Option.map_some, D.ref.injEq, D.int.injEq, D.bl.injEq, MO.lst.injEq, exists_and_left, exists_and_right, updM_same, updM_updM, ixN0, ixN1, ixN2, ifB, ifNB, Bool.not_true, Bool.not_false, Bool.false_eq_true, Bool.true_eq_false, if_true, if_false, ite_true, ite_false, true_and, and_true, or_true, true_or, or_false, false_or, false_and, and_false, String.reduceEq, eq_self, decide_true, decide_false, exIf, ne_eq, not_false_eq_true, Nat.zero_le, b_law_sizes_2]
    refine use_next m.2 (by decide) (by decide) fun f M4 f0 f1 m4 => ?_
    simp (maxSteps := 400000) only [vSs, vS, vE, vEs, vT, vTo, vI, startD, endsOf, List.map_cons, List.map_nil, List.length_cons, List.length_nil, List.replicate, List.cons_append, List.nil_append, Nat.reduceAdd, Nat.reduceSub, Nat.reduceLeDiff, List.getElem?_cons_zero, List.getElem?_cons_succ, Option.some.injEq, exists_eq_left', exists_eq_left, exists_eq', exists_eq, bindT, bindTs, List.set_cons_zero, List.set_cons_succ, ixV, atI0, atI1, atI2, atI3, cmpV, cmpEq, cmpIs, fOp, fCmp, binV, augV, Bi.wp, Bi.val, truD, wipeR, slotsT, slotsTs, Int.cast_ofNat_Int, seqV, seqF, seqL, Option.map_some, D.ref.injEq, D.int.injEq, D.bl.injEq, MO.lst.injEq, exists_and_left, exists_and_right, updM_same, updM_updM, ixN0, ixN1, ixN2, ifB, ifNB, Bool.not_true, Bool.not_false, Bool.false_eq_true, Bool.true_eq_false, if_true, if_false, ite_true, ite_false, true_and, and_true, or_true, true_or, or_false, false_or, false_and, and_false, String.reduceEq, eq_self, decide_true, decide_false, exIf, ne_eq, not_false_eq_true, Nat.zero_le, b_law_sizes_1]
    refine use_next m4.2 (by decide) (by decide) fun n M5 n0 n1 m5 => ?_
    simp (maxSteps := 400000) only [vSs, vS, vE, vEs, vT, vTo, vI, startD, endsOf, List.map_cons, List.map_nil, List.length_cons, List.length_nil, List.replicate, List.cons_append, List.nil_append, Nat.reduceAdd, Nat.reduceSub, Nat.reduceLeDiff, List.getElem?_cons_zero, List.getElem?_cons_succ, Option.some.injEq, exists_eq_left', exists_eq_left, exists_eq', exists_eq, bindT, bindTs, List.set_cons_zero, List.set_cons_succ, ixV, atI0, atI1, atI2, atI3, cmpV, cmpEq, cmpIs, fOp, fCmp, binV, augV, Bi.wp, Bi.val, truD, wipeR, slotsT, slotsTs, Int.cast_ofNat_Int, seqV, seqF, seqL, Option.map_some, D.ref.injEq, D.int.injEq, D.bl.injEq, MO.lst.injEq, exists_and_left, exists_and_right, updM_same, updM_updM, ixN0, ixN1, ixN2, ifB, ifNB, Bool.not_true, Bool.not_false, Bool.false_eq_true, Bool.true_eq_false, if_true, if_false, ite_true, ite_false, true_and, and_true, or_true, true_or, or_false, false_or, false_and, and_false, String.reduceEq, eq_self, decide_true, decide_false, exIf, ne_eq, not_false_eq_true, Nat.zero_le, b_law_sizes_3]
    exact ⟨_, Sub.refl _, q _ _ _ f0 (by omega) n0 (by omega) ((m.trans m4).trans m5)⟩
  · simp (maxSteps := 400000) only [vSs, vS, vE, vEs, vT, vTo, vI, startD, endsOf, List.map_cons, List.map_nil, List.length_cons, List.length_nil, List.replicate, List.cons_append, List.nil_append, Nat.reduceAdd, Nat.reduceSub, Nat.reduceLeDiff, List.getElem?_cons_zero, List.getElem?_cons_succ, Option.some.injEq, exists_eq_left', exists_eq_left, exists_eq', exists_eq, bindT, bindTs, List.set_cons_zero, List.set_cons_succ, ixV, atI0, atI1, atI2, atI3, cmpV, cmpEq, cmpIs, fOp, fCmp, binV, augV, Bi.wp, Bi.val, truD, wipeR, slotsT, slotsTs, Int.cast_ofNat_Int, seqV, seqF, seqL, Option.map_some, D.ref.injEq, D.int.injEq, D.bl.injEq, MO.lst.injEq, exists_and_left, exists_and_right, updM_same, updM_updM, ixN0, ixN1, ixN2, ifB, ifNB, Bool.not_true, Bool.not_false, Bool.false_eq_true, Bool.true_eq_false, if_true, if_false, ite_true, ite_false, true_and, and_true, or_true, true_or, or_false, false_or, false_and, and_false, String.reduceEq, eq_self, decide_true, decide_false, exIf, ne_eq, not_false_eq_true, Nat.zero_le, b_law_sizes_3]
    exact ⟨_, Sub.refl _, q _ _ _ f0 (by omega) n0 (by omega) m⟩
def C_ranges : Con := fun ds M Q _ => ∃ p ns n, ds = [.ref p, .int n] ∧ 0 ≤ n ∧ n ≤ 30 ∧ Stream M p ns ∧ ∀ ss M', (ss.length : Int) = n → Good ss → Mv M M' p ns → Q (.lst (ss.map dS)) M'
theorem w_ranges (ds : List D) (M : Mo) (Q : QE) (X : XQ) (h : C_ranges ds M Q X) : vSs [F_next] b_law_ranges (endsOf Q X) (startD 6 ds) M := by
  obtain ⟨p, ns, n, rfl, n0, n1, hs, q⟩ := h
  simp (maxSteps := 400000) only [vSs, vS, vE, vEs, vT, vTo, vI, startD, endsOf, List.map_cons, List.map_nil, List.length_cons, List.length_nil, List.replicate, List.cons_append, List.nil_append, Nat.reduceAdd, Nat.reduceSub, Nat.reduceLeDiff, List.getElem?_cons_zero, List.getElem?_cons_succ, Option.some.injEq, exists_eq_left', exists_eq_left, exists_eq', exists_eq, bindT, bindTs, List.set_cons_zero, List.set_cons_succ, ixV, atI0, atI1, atI2, atI3, cmpV, cmpEq, cmpIs, fOp, fCmp, binV, augV, Bi.wp, Bi.val, truD, wipeR, slotsT, slotsTs, Int.cast_ofNat_Int, seqV, seqF, seqL, Option.map_some, D.ref.injEq, D.int.injEq, D.bl.injEq, MO.lst.injEq, exists_and_left, exists_and_right, updM_same, updM_updM, ixN0, ixN1, ixN2, ifB, ifNB, Bool.not_true, Bool.not_false, Bool.false_eq_true, Bool.true_eq_false, if_true, if_false, ite_true, ite_false, true_and, and_true, or_true, true_or, or_false, false_or, false_and, and_false, String.reduceEq, eq_self, decide_true, decide_false, exIf, ne_eq, not_false_eq_true, Nat.zero_le, b_law_ranges]
  intro r hr
  simp (maxSteps := 400000) only [vSs, vS, vE, vEs, vT, vTo, vI, startD, endsOf, List.map_cons, List.map_nil, List.length_cons, List.length_nil, List.replicate, List.cons_append, List.nil_append, Nat.reduceAdd, Nat.reduceSub, Nat.reduceLeDiff, List.getElem?_cons_zero, List.getElem?_cons_succ, Option.some.injEq, exists_eq_left', exists_eq_left, exists_eq', exists_eq, bindT, bindTs, List.set_cons_zero, List.set_cons_succ, ixV, atI0, atI1, atI2, atI3, cmpV, cmpEq, cmpIs, fOp, fCmp, binV, augV, Bi.wp, Bi.val, truD, wipeR, slotsT, slotsTs, Int.cast_ofNat_Int, seqV, seqF, seqL, Option.map_some, D.ref.injEq, D.int.injEq, D.bl.injEq, MO.lst.injEq, exists_and_left, exists_and_right, updM_same, updM_updM, ixN0, ixN1, ixN2, ifB, ifNB, Bool.not_true, Bool.not_false, Bool.false_eq_true, Bool.true_eq_false, if_true, if_false, ite_true, ite_false, true_and, and_true, or_true, true_or, or_false, false_or, false_and, and_false, String.reduceEq, eq_self, decide_true, decide_false, exIf, ne_eq, not_false_eq_true, Nat.zero_le, b_law_ranges_10]
  refine ⟨by omega, by omega, ?_⟩
  have l := Loc.new (ds := []) (Mv.refl hs) hr
  refine vFor_run _ (fun (L : List Nat) ρ M' => ∃ (ss : List (Int × Int)) (x y z : Option D), ρ = [some (.ref p), some (.int n), some (.ref r), x, y, z] ∧ (ss.length + L.length : Int) = n ∧ Good ss ∧ Loc M M' p ns r (ss.map dS)) ?_ ?_ _ _ _ ⟨[], _, _, _, rfl, by simp; omega, by simp [Good], l⟩
  · rintro x L ρ M' ⟨ss, _, _, _, rfl, hl, g, l⟩
    refine ⟨_, rfl, fun N hN => ?_⟩
    rw [List.length_cons] at hl
    have tail : ∀ (M' : Mo) (a b : Int) (x : Option D) (K : EndsD), Loc M M' p ns r (ss.map dS) → -1000000 ≤ a → a ≤ 1000000 → 0 ≤ b → b ≤ 200 → K.nx = N → vSs [F_next] b_law_ranges_3 K [some (.ref p), some (.int n), some (.ref r), x, some (.int a), some (.int b)] M' := by
      intro M' a b x K l a0 a1 b0 b1 hK
      simp (maxSteps := 400000) only [vSs, vS, vE, vEs, vT, vTo, vI, startD, endsOf, List.map_cons, List.map_nil, List.length_cons, List.length_nil, List.replicate, List.cons_append, List.nil_append, Nat.reduceAdd, Nat.reduceSub, Nat.reduceLeDiff, List.getElem?_cons_zero, List.getElem?_cons_succ, Option.some.injEq, exists_eq_left', exists_eq_left, exists_eq', exists_eq, bindT, bindTs, List.set_cons_zero, List.set_cons_succ, ixV, atI0, atI1, atI2, atI3, cmpV, cmpEq, cmpIs, fOp, fCmp, binV, augV, Bi.wp, Bi.val, truD, wipeR, slotsT, slotsTs, Int.cast_ofNat_Int, seqV, seqF, seqL, Option.map_some, D.ref.injEq, D.int.injEq, D.bl.injEq, MO.lst.injEq, exists_and_left, exists_and_right, updM_same, updM_updM, ixN0, ixN1, ixN2, ifB, ifNB, Bool.not_true, Bool.not_false, Bool.false_eq_true, Bool.true_eq_false, if_true, if_false, ite_true, ite_false, true_and, and_true, or_true, true_or, or_false, false_or, false_and, and_false, String.reduceEq, eq_self, decide_true, decide_false, exIf, ne_eq, not_false_eq_true, Nat.zero_le, b_law_ranges_3, l.at', List.length_map, hK]
      refine ⟨by omega, hN _ _ ⟨ss ++ [(a, a + b)], _, _, _, rfl, by simp; omega, ?_, ?_⟩⟩
      · intro s hs
        rcases List.mem_append.mp hs with h | h
        · exact g s h
        · obtain rfl := List.mem_singleton.mp h
          simp only
          omega
      · rw [List.map_append]; exact l.set
    have mid : ∀ (M' : Mo) (a : Int) (x z : Option D) (K : EndsD), Loc M M' p ns r (ss.map dS) → -1000000 ≤ a → a ≤ 1000000 → K.nx = N → vSs [F_next] b_law_ranges_5 K [some (.ref p), some (.int n), some (.ref r), x, some (.int a), z] M' := by
      intro M' a x z K l a0 a1 hK
      simp (maxSteps := 400000) only [vSs, vS, vE, vEs, vT, vTo, vI, startD, endsOf, List.map_cons, List.map_nil, List.length_cons, List.length_nil, List.replicate, List.cons_append, List.nil_append, Nat.reduceAdd, Nat.reduceSub, Nat.reduceLeDiff, List.getElem?_cons_zero, List.getElem?_cons_succ, Option.some.injEq, exists_eq_left', exists_eq_left, exists_eq', exists_eq, bindT, bindTs, List.set_cons_zero, List.set_cons_succ, ixV, atI0, atI1, atI2, atI3, cmpV, cmpEq, cmpIs, fOp, fCmp, binV, augV, Bi.wp, Bi.val, truD, wipeR, slotsT, slotsTs, Int.cast_ofNat_Int, seqV, seqF, seqL, Option.map_some, D.ref.injEq, D.int.injEq, D.bl.injEq, MO.lst.injEq, exists_and_left, exists_and_right, updM_same, updM_updM, ixN0, ixN1, ixN2, ifB, ifNB, Bool.not_true, Bool.not_false, Bool.false_eq_true, Bool.true_eq_false, if_true, if_false, ite_true, ite_false, true_and, and_true, or_true, true_or, or_false, false_or, false_and, and_false, String.reduceEq, eq_self, decide_true, decide_false, exIf, ne_eq, not_false_eq_true, Nat.zero_le, b_law_ranges_5]
      refine use_next l.mv.2 (by decide) (by decide) fun b M2 b0 b1 m2 => ?_
      simp (maxSteps := 400000) only [vSs, vS, vE, vEs, vT, vTo, vI, startD, endsOf, List.map_cons, List.map_nil, List.length_cons, List.length_nil, List.replicate, List.cons_append, List.nil_append, Nat.reduceAdd, Nat.reduceSub, Nat.reduceLeDiff, List.getElem?_cons_zero, List.getElem?_cons_succ, Option.some.injEq, exists_eq_left', exists_eq_left, exists_eq', exists_eq, bindT, bindTs, List.set_cons_zero, List.set_cons_succ, ixV, atI0, atI1, atI2, atI3, cmpV, cmpEq, cmpIs, fOp, fCmp, binV, augV, Bi.wp, Bi.val, truD, wipeR, slotsT, slotsTs, Int.cast_ofNat_Int, seqV, seqF, seqL, Option.map_some, D.ref.injEq, D.int.injEq, D.bl.injEq, MO.lst.injEq, exists_and_left, exists_and_right, updM_same, updM_updM, ixN0, ixN1, ixN2, ifB, ifNB, Bool.not_true, Bool.not_false, Bool.false_eq_true, Bool.true_eq_false, if_true, if_false, ite_true, ite_false, true_and, and_true, or_true, true_or, or_false, false_or, false_and, and_false, String.reduceEq, eq_self, decide_true, decide_false, exIf, ne_eq, not_false_eq_true, Nat.zero_le, b_law_ranges_4]
      refine use_next m2.2 (by decide) (by decide) fun c M3 c0 c1 m3 => ?_
      simp (maxSteps := 400000) only [vSs, vS, vE, vEs, vT, vTo, vI, startD, endsOf, List.map_cons, List.map_nil, List.length_cons, List.length_nil, List.replicate, List.cons_append, List.nil_append, Nat.reduceAdd, Nat.reduceSub, Nat.reduceLeDiff, List.getElem?_cons_zero, List.getElem?_cons_succ, Option.some.injEq, exists_eq_left', exists_eq_left, exists_eq', exists_eq, bindT, bindTs, List.set_cons_zero, List.set_cons_succ, ixV, atI0, atI1, atI2, atI3, cmpV, cmpEq, cmpIs, fOp, fCmp, binV, augV, Bi.wp, Bi.val, truD, wipeR, slotsT, slotsTs, Int.cast_ofNat_Int, seqV, seqF, seqL, Option.map_some, D.ref.injEq, D.int.injEq, D.bl.injEq, MO.lst.injEq, exists_and_left, exists_and_right, updM_same, updM_updM, ixN0, ixN1, ixN2, ifB, ifNB, Bool.not_true, Bool.not_false, Bool.false_eq_true, Bool.true_eq_false, if_true, if_false, ite_true, ite_false, true_and, and_true, or_true, true_or, or_false, false_or, false_and, and_false, String.reduceEq, eq_self, decide_true, decide_false, exIf, ne_eq, not_false_eq_true, Nat.zero_le]
      refine iteI (fun _ => ?_) (fun _ => ?_)
      · simp (maxSteps := 400000) only [vSs, vS, vE, vEs, vT, vTo, vI, startD, endsOf, List.map_cons, List.map_nil, List.length_cons, List.length_nil, List.replicate, List.cons_append, List.nil_append, Nat.reduceAdd, Nat.reduceSub, Nat.reduceLeDiff, List.getElem?_cons_zero, List.getElem?_cons_succ, Option.some.injEq, exists_eq_left', exists_eq_left, exists_eq', exists_eq, bindT, bindTs, List.set_cons_zero, List.set_cons_succ, ixV, atI0, atI1, atI2, atI3, cmpV, cmpEq, cmpIs, fOp, fCmp, binV, augV, Bi.wp, Bi.val, truD, wipeR, slotsT, slotsTs, Int.cast_ofNat_Int, seqV, seqF, seqL, Option.map_some, D.ref.injEq, D.int.injEq, D.bl.injEq, MO.lst.injEq, exists_and_left, exists_and_right, updM_same, updM_updM, ixN0, ixN1, ixN2, ifB, ifNB, Bool.not_true, Bool.not_false, Bool.false_eq_true, Bool.true_eq_false, if_true, if_false, ite_true, ite_false, true_and, and_true, or_true, true_or, or_false, false_or, false_and, and_false, String.reduceEq, eq_self, decide_true, decide_false, exIf, ne_eq, not_false_eq_true, Nat.zero_le, b_law_ranges_2]
        refine use_next m3.2 (by decide) (by decide) fun b M4 b0 b1 m4 => ?_
        exact tail _ _ _ _ _ (((l.draw m2).draw m3).draw m4) a0 a1 b0 (by omega) hK
      · exact tail _ _ _ _ _ ((l.draw m2).draw m3) a0 a1 b0 (by omega) hK
    simp (maxSteps := 400000) only [vSs, vS, vE, vEs, vT, vTo, vI, startD, endsOf, List.map_cons, List.map_nil, List.length_cons, List.length_nil, List.replicate, List.cons_append, List.nil_append, Nat.reduceAdd, Nat.reduceSub, Nat.reduceLeDiff, List.getElem?_cons_zero, List.getElem?_cons_succ, Option.some.injEq, exists_eq_left', exists_eq_left, exists_eq', exists_eq, bindT, bindTs, List.set_cons_zero, List.set_cons_succ, ixV, atI0, atI1, atI2, atI3, cmpV, cmpEq, cmpIs, fOp, fCmp, binV, augV, Bi.wp, Bi.val, truD, wipeR, slotsT, slotsTs, Int.cast_ofNat_Int, seqV, seqF, seqL, Option.map_some, D.ref.injEq, D.int.injEq, D.bl.injEq, MO.lst.injEq, exists_and_left, exists_and_right, updM_same, updM_updM, ixN0, ixN1, ixN2, ifB, ifNB, Bool.not_true, Bool.not_false, Bool.false_eq_true, Bool.true_eq_false, if_true, if_false, ite_true, ite_false, true_and, and_true, or_true, true_or, or_false, false_or, false_and, and_false, String.reduceEq, eq_self, decide_true, decide_false, exIf, ne_eq, not_false_eq_true, Nat.zero_le, b_law_ranges_7]
    refine use_next l.mv.2 (by decide) (by decide) fun a M2 a0 a1 m2 => ?_
    simp (maxSteps := 400000) only [vSs, vS, vE, vEs, vT, vTo, vI, startD, endsOf, List.map_cons, List.map_nil, List.length_cons, List.length_nil, List.replicate, List.cons_append, List.nil_append, Nat.reduceAdd, Nat.reduceSub, Nat.reduceLeDiff, List.getElem?_cons_zero, List.getElem?_cons_succ, Option.some.injEq, exists_eq_left', exists_eq_left, exists_eq', exists_eq, bindT, bindTs, List.set_cons_zero, List.set_cons_succ, ixV, atI0, atI1, atI2, atI3, cmpV, cmpEq, cmpIs, fOp, fCmp, binV, augV, Bi.wp, Bi.val, truD, wipeR, slotsT, slotsTs, Int.cast_ofNat_Int, seqV, seqF, seqL, Option.map_some, D.ref.injEq, D.int.injEq, D.bl.injEq, MO.lst.injEq, exists_and_left, exists_and_right, updM_same, updM_updM, ixN0, ixN1, ixN2, ifB, ifNB, Bool.not_true, Bool.not_false, Bool.false_eq_true, Bool.true_eq_false, if_true, if_false, ite_true, ite_false, true_and, and_true, or_true, true_or, or_false, false_or, false_and, and_false, String.reduceEq, eq_self, decide_true, decide_false, exIf, ne_eq, not_false_eq_true, Nat.zero_le, b_law_ranges_6]
    refine use_next m2.2 (by decide) (by decide) fun c M3 c0 c1 m3 => ?_
    simp (maxSteps := 400000) only [vSs, vS, vE, vEs, vT, vTo, vI, startD, endsOf, List.map_cons, List.map_nil, List.length_cons, List.length_nil, List.replicate, List.cons_append, List.nil_append, Nat.reduceAdd, Nat.reduceSub, Nat.reduceLeDiff, List.getElem?_cons_zero, List.getElem?_cons_succ, Option.some.injEq, exists_eq_left', exists_eq_left, exists_eq', exists_eq, bindT, bindTs, List.set_cons_zero, List.set_cons_succ, ixV, atI0, atI1, atI2, atI3, cmpV, cmpEq, cmpIs, fOp, fCmp, binV, augV, Bi.wp, Bi.val, truD, wipeR, slotsT, slotsTs, Int.cast_ofNat_Int, seqV, seqF, seqL, Option.map_some, D.ref.injEq, D.int.injEq, D.bl.injEq, MO.lst.injEq, exists_and_left, exists_and_right, updM_same, updM_updM, ixN0, ixN1, ixN2, ifB, ifNB, Bool.not_true, Bool.not_false, Bool.false_eq_true, Bool.true_eq_false, if_true, if_false, ite_true, ite_false, true_and, and_true, or_true, true_or, or_false, false_or, false_and, and_false, String.reduceEq, eq_self, decide_true, decide_false, exIf, ne_eq, not_false_eq_true, Nat.zero_le]
    refine iteI (fun _ => ?_) (fun _ => ?_)
    · simp (maxSteps := 400000) only [vSs, vS, vE, vEs, vT, vTo, vI, startD, endsOf, List.map_cons, List.map_nil, List.length_cons, List.length_nil, List.replicate, List.cons_append, List.nil_append, Nat.reduceAdd, Nat.reduceSub, Nat.reduceLeDiff, List.getElem?_cons_zero, List.getElem?_cons_succ, Option.some.injEq, exists_eq_left', exists_eq_left, exists_eq', exists_eq, bindT, bindTs, List.set_cons_zero, List.set_cons_succ, ixV, atI0, atI1, atI2, atI3, cmpV, cmpEq, cmpIs, fOp, fCmp, binV, augV, Bi.wp, Bi.val, truD, wipeR, slotsT, slotsTs, Int.cast_ofNat_Int, seqV, seqF, seqL, Option.map_some, D.ref.injEq, D.int.injEq, D.bl.injEq, MO.lst.injEq, exists_and_left, exists_and_right, updM_same, updM_updM, ixN0, ixN1, ixN2, ifB, ifNB, Bool.not_true, Bool.not_false, Bool.false_eq_true, Bool.true_eq_false, if_true, if_false, ite_true, ite_false, true_and, and_true, or_true, true_or, or_false, false_or, false_and, and_false, String.reduceEq, eq_self, decide_true, decide_false, exIf, ne_eq, not_false_eq_true, Nat.zero_le, b_law_ranges_1]
      refine use_next m3.2 (by decide) (by decide) fun a M4 a0 a1 m4 => ?_
      simp (maxSteps := 400000) only [vSs, vS, vE, vEs, vT, vTo, vI, startD, endsOf, List.map_cons, List.map_nil, List.length_cons, List.length_nil, List.replicate, List.cons_append, List.nil_append, Nat.reduceAdd, Nat.reduceSub, Nat.reduceLeDiff, List.getElem?_cons_zero, List.getElem?_cons_succ, Option.some.injEq, exists_eq_left', exists_eq_left, exists_eq', exists_eq, bindT, bindTs, List.set_cons_zero, List.set_cons_succ, ixV, atI0, atI1, atI2, atI3, cmpV, cmpEq, cmpIs, fOp, fCmp, binV, augV, Bi.wp, Bi.val, truD, wipeR, slotsT, slotsTs, Int.cast_ofNat_Int, seqV, seqF, seqL, Option.map_some, D.ref.injEq, D.int.injEq, D.bl.injEq, MO.lst.injEq, exists_and_left, exists_and_right, updM_same, updM_updM, ixN0, ixN1, ixN2, ifB, ifNB, Bool.not_true, Bool.not_false, Bool.false_eq_true, Bool.true_eq_false, if_true, if_false, ite_true, ite_false, true_and, and_true, or_true, true_or, or_false, false_or, false_and, and_false, String.reduceEq, eq_self, decide_true, decide_false, exIf, ne_eq, not_false_eq_true, Nat.zero_le]
      exact mid _ _ _ _ _ (((l.draw m2).draw m3).draw m4) (by omega) (by omega) rfl
    · exact mid _ _ _ _ _ ((l.draw m2).draw m3) (by omega) (by omega) rfl
  · rintro ρ M' ⟨ss, _, _, _, rfl, hl, g, l⟩
    simp (maxSteps := 400000) only [vSs, vS, vE, vEs, vT, vTo, vI, startD, endsOf, List.map_cons, List.map_nil, List.length_cons, List.length_nil, List.replicate, List.cons_append, List.nil_append, Nat.reduceAdd, Nat.reduceSub, Nat.reduceLeDiff, List.getElem?_cons_zero, List.getElem?_cons_succ, Option.some.injEq, exists_eq_left', exists_eq_left, exists_eq', exists_eq, bindT, bindTs, List.set_cons_zero, List.set_cons_succ, ixV, atI0, atI1, atI2, atI3, cmpV, cmpEq, cmpIs, fOp, fCmp, binV, augV, Bi.wp, Bi.val, truD, wipeR, slotsT, slotsTs, Int.cast_ofNat_Int, seqV, seqF, seqL, Option.map_some, D.ref.injEq, D.int.injEq, D.bl.injEq, MO.lst.injEq, exists_and_left, exists_and_right, updM_same, updM_updM, ixN0, ixN1, ixN2, ifB, ifNB, Bool.not_true, Bool.not_false, Bool.false_eq_true, Bool.true_eq_false, if_true, if_false, ite_true, ite_false, true_and, and_true, or_true, true_or, or_false, false_or, false_and, and_false, String.reduceEq, eq_self, decide_true, decide_false, exIf, ne_eq, not_false_eq_true, Nat.zero_le, b_law_ranges_9, l.at', b_law_ranges_8]
    exact ⟨_, Sub.refl _, q ss _ (by simpa using hl) g l.frz⟩

def C_span : Con := fun ds M Q _ => ∃ p ns l h, ds = [.ref p, .int l, .int h] ∧ -2000000 ≤ l ∧ l ≤ h ∧ h ≤ 2000000 ∧ Stream M p ns ∧ ∀ a b M', l ≤ a → a ≤ b → b ≤ h → Mv M M' p ns → Q (dS (a, b)) M'
theorem w_span (ds : List D) (M : Mo) (Q : QE) (X : XQ) (h : C_span ds M Q X) : vSs [F_next] b_law_free_span (endsOf Q X) (startD 4 ds) M := by
  obtain ⟨p, ns, l, h, rfl, l0, lh, h1, hs, q⟩ := h
  simp (maxSteps := 400000) only [vSs, vS, vE, vEs, vT, vTo, vI, startD, endsOf, List.map_cons, List.map_nil, List.length_cons, List.length_nil, List.replicate, List.cons_append, List.nil_append, Nat.reduceAdd, Nat.reduceSub, Nat.reduceLeDiff, List.getElem?_cons_zero, List.getElem?_cons_succ, Option.some.injEq, exists_eq_left', exists_eq_left, exists_eq', exists_eq, bindT, bindTs, List.set_cons_zero, List.set_cons_succ, ixV, atI0, atI1, atI2, atI3, cmpV, cmpEq, cmpIs, fOp, fCmp, binV, augV, Bi.wp, Bi.val, truD, wipeR, slotsT, slotsTs, Int.cast_ofNat_Int, seqV, seqF, seqL, Option.map_some, D.ref.injEq, D.int.injEq, D.bl.injEq, MO.lst.injEq, exists_and_left, exists_and_right, updM_same, updM_updM, ixN0, ixN1, ixN2, ifB, ifNB, Bool.not_true, Bool.not_false, Bool.false_eq_true, Bool.true_eq_false, if_true, if_false, ite_true, ite_false, true_and, and_true, or_true, true_or, or_false, false_or, false_and, and_false, String.reduceEq, eq_self, decide_true, decide_false, exIf, ne_eq, not_false_eq_true, Nat.zero_le, b_law_free_span]
  refine use_next hs (by omega) (by omega) fun a M1 a0 a1 m1 => ?_
  simp (maxSteps := 400000) only [vSs, vS, vE, vEs, vT, vTo, vI, startD, endsOf, List.map_cons, List.map_nil, List.length_cons, List.length_nil, List.replicate, List.cons_append, List.nil_append, Nat.reduceAdd, Nat.reduceSub, Nat.reduceLeDiff, List.getElem?_cons_zero, List.getElem?_cons_succ, Option.some.injEq, exists_eq_left', exists_eq_left, exists_eq', exists_eq, bindT, bindTs, List.set_cons_zero, List.set_cons_succ, ixV, atI0, atI1, atI2, atI3, cmpV, cmpEq, cmpIs, fOp, fCmp, binV, augV, Bi.wp, Bi.val, truD, wipeR, slotsT, slotsTs, Int.cast_ofNat_Int, seqV, seqF, seqL, Option.map_some, D.ref.injEq, D.int.injEq, D.bl.injEq, MO.lst.injEq, exists_and_left, exists_and_right, updM_same, updM_updM, ixN0, ixN1, ixN2, ifB, ifNB, Bool.not_true, Bool.not_false, Bool.false_eq_true, Bool.true_eq_false, if_true, if_false, ite_true, ite_false, true_and, and_true, or_true, true_or, or_false, false_or, false_and, and_false, String.reduceEq, eq_self, decide_true, decide_false, exIf, ne_eq, not_false_eq_true, Nat.zero_le, b_law_free_span_1]
  refine use_next m1.2 (by omega) (by omega) fun b M2 b0 b1 m2 => ?_
  simp (maxSteps := 400000) only [vSs, vS, vE, vEs, vT, vTo, vI, startD, endsOf, List.map_cons, List.map_nil, List.length_cons, List.length_nil, List.replicate, List.cons_append, List.nil_append, Nat.reduceAdd, Nat.reduceSub, Nat.reduceLeDiff, List.getElem?_cons_zero, List.getElem?_cons_succ, Option.some.injEq, exists_eq_left', exists_eq_left, exists_eq', exists_eq, bindT, bindTs, List.set_cons_zero, List.set_cons_succ, ixV, atI0, atI1, atI2, atI3, cmpV, cmpEq, cmpIs, fOp, fCmp, binV, augV, Bi.wp, Bi.val, truD, wipeR, slotsT, slotsTs, Int.cast_ofNat_Int, seqV, seqF, seqL, Option.map_some, D.ref.injEq, D.int.injEq, D.bl.injEq, MO.lst.injEq, exists_and_left, exists_and_right, updM_same, updM_updM, ixN0, ixN1, ixN2, ifB, ifNB, Bool.not_true, Bool.not_false, Bool.false_eq_true, Bool.true_eq_false, if_true, if_false, ite_true, ite_false, true_and, and_true, or_true, true_or, or_false, false_or, false_and, and_false, String.reduceEq, eq_self, decide_true, decide_false, exIf, ne_eq, not_false_eq_true, Nat.zero_le]
  exact ⟨_, Sub.refl _, q _ _ _ (by omega) (by omega) (by omega) (m1.trans m2)⟩
abbrev F_span : Fn := ⟨"_law_free_span", 3, C_span⟩
def C_fbox : Con := fun ds M Q _ => ∃ p ns f ss, ds = [.ref p, .int f, .lst (ss.map dS)] ∧ 0 ≤ f ∧ f ≤ 120 ∧ ss.length ≤ 30 ∧ Good ss ∧ Stream M p ns ∧ ∀ es s2 M', (es.length : Int) = f → s2.length = ss.length → Good s2 → Mv M M' p ns → Q (dX es s2) M'
theorem w_fbox (ds : List D) (M : Mo) (Q : QE) (X : XQ) (h : C_fbox ds M Q X) : vSs [F_next, F_span] b_law_free_box (endsOf Q X) (startD 8 ds) M := by
  obtain ⟨p, ns, f, ss, rfl, f0, f1, hl, g, hs, q⟩ := h
  simp (maxSteps := 400000) only [vSs, vS, vE, vEs, vT, vTo, vI, startD, endsOf, List.map_cons, List.map_nil, List.length_cons, List.length_nil, List.replicate, List.cons_append, List.nil_append, Nat.reduceAdd, Nat.reduceSub, Nat.reduceLeDiff, List.getElem?_cons_zero, List.getElem?_cons_succ, Option.some.injEq, exists_eq_left', exists_eq_left, exists_eq', exists_eq, bindT, bindTs, List.set_cons_zero, List.set_cons_succ, ixV, atI0, atI1, atI2, atI3, cmpV, cmpEq, cmpIs, fOp, fCmp, binV, augV, Bi.wp, Bi.val, truD, wipeR, slotsT, slotsTs, Int.cast_ofNat_Int, seqV, seqF, seqL, Option.map_some, D.ref.injEq, D.int.injEq, D.bl.injEq, MO.lst.injEq, exists_and_left, exists_and_right, updM_same, updM_updM, ixN0, ixN1, ixN2, ifB, ifNB, Bool.not_true, Bool.not_false, Bool.false_eq_true, Bool.true_eq_false, if_true, if_false, ite_true, ite_false, true_and, and_true, or_true, true_or, or_false, false_or, false_and, and_false, String.reduceEq, eq_self, decide_true, decide_false, exIf, ne_eq, not_false_eq_true, Nat.zero_le, b_law_free_box]
  refine ⟨by omega, by omega, by simp; omega, ?_⟩
  refine vComp_run _ (fun (L : List Nat) acc M' => ∃ es : List (Option Bool), acc = es.map dB ∧ (es.length + L.length : Int) = f ∧ Mv M M' p ns) ?_ ?_ _ _ _ ⟨[], rfl, by simp; omega, Mv.refl hs⟩
  · rintro x L acc M' ⟨es, rfl, hl, m⟩
    refine ⟨_, rfl, fun N hN => ?_⟩
    rw [List.length_cons] at hl
    simp (maxSteps := 400000) only [vSs, vS, vE, vEs, vT, vTo, vI, startD, endsOf, List.map_cons, List.map_nil, List.length_cons, List.length_nil, List.replicate, List.cons_append, List.nil_append, Nat.reduceAdd, Nat.reduceSub, Nat.reduceLeDiff, List.getElem?_cons_zero, List.getElem?_cons_succ, Option.some.injEq, exists_eq_left', exists_eq_left, exists_eq', exists_eq, bindT, bindTs, List.set_cons_zero, List.set_cons_succ, ixV, atI0, atI1, atI2, atI3, cmpV, cmpEq, cmpIs, fOp, fCmp, binV, augV, Bi.wp, Bi.val, truD, wipeR, slotsT, slotsTs, Int.cast_ofNat_Int, seqV, seqF, seqL, Option.map_some, D.ref.injEq, D.int.injEq, D.bl.injEq, MO.lst.injEq, exists_and_left, exists_and_right, updM_same, updM_updM, ixN0, ixN1, ixN2, ifB, ifNB, Bool.not_true, Bool.not_false, Bool.false_eq_true, Bool.true_eq_false, if_true, if_false, ite_true, ite_false, true_and, and_true, or_true, true_or, or_false, false_or, false_and, and_false, String.reduceEq, eq_self, decide_true, decide_false, exIf, ne_eq, not_false_eq_true, Nat.zero_le]
    refine use_next m.2 (by decide) (by decide) fun r M1 r0 r1 m1 => ?_
    have go : ∀ o : Option Bool, N (es.map dB ++ [dB o]) M1 := fun o => hN _ _ ⟨es ++ [o], by simp, by simp; omega, m.trans m1⟩
    have : r = 0 ∨ r = 1 ∨ r = 2 ∨ r = 3 := by omega
    rcases this with rfl | rfl | rfl | rfl
    · simp (maxSteps := 400000) only [vSs, vS, vE, vEs, vT, vTo, vI, startD, endsOf, List.map_cons, List.map_nil, List.length_cons, List.length_nil, List.replicate, List.cons_append, List.nil_append, Nat.reduceAdd, Nat.reduceSub, Nat.reduceLeDiff, List.getElem?_cons_zero, List.getElem?_cons_succ, Option.some.injEq, exists_eq_left', exists_eq_left, exists_eq', exists_eq, bindT, bindTs, List.set_cons_zero, List.set_cons_succ, ixV, atI0, atI1, atI2, atI3, cmpV, cmpEq, cmpIs, fOp, fCmp, binV, augV, Bi.wp, Bi.val, truD, wipeR, slotsT, slotsTs, Int.cast_ofNat_Int, seqV, seqF, seqL, Option.map_some, D.ref.injEq, D.int.injEq, D.bl.injEq, MO.lst.injEq, exists_and_left, exists_and_right, updM_same, updM_updM, ixN0, ixN1, ixN2, ifB, ifNB, Bool.not_true, Bool.not_false, Bool.false_eq_true, Bool.true_eq_false, if_true, if_false, ite_true, ite_false, true_and, and_true, or_true, true_or, or_false, false_or, false_and, and_false, String.reduceEq, eq_self, decide_true, decide_false, exIf, ne_eq, not_false_eq_true, Nat.zero_le]; exact go none
    · simp (maxSteps := 400000) only [vSs, vS, vE, vEs, vT, vTo, vI, startD, endsOf, List.map_cons, List.map_nil, List.length_cons, List.length_nil, List.replicate, List.cons_append, List.nil_append, Nat.reduceAdd, Nat.reduceSub, Nat.reduceLeDiff, List.getElem?_cons_zero, List.getElem?_cons_succ, Option.some.injEq, exists_eq_left', exists_eq_left, exists_eq', exists_eq, bindT, bindTs, List.set_cons_zero, List.set_cons_succ, ixV, atI0, atI1, atI2, atI3, cmpV, cmpEq, cmpIs, fOp, fCmp, binV, augV, Bi.wp, Bi.val, truD, wipeR, slotsT, slotsTs, Int.cast_ofNat_Int, seqV, seqF, seqL, Option.map_some, D.ref.injEq, D.int.injEq, D.bl.injEq, MO.lst.injEq, exists_and_left, exists_and_right, updM_same, updM_updM, ixN0, ixN1, ixN2, ifB, ifNB, Bool.not_true, Bool.not_false, Bool.false_eq_true, Bool.true_eq_false, if_true, if_false, ite_true, ite_false, true_and, and_true, or_true, true_or, or_false, false_or, false_and, and_false, String.reduceEq, eq_self, decide_true, decide_false, exIf, ne_eq, not_false_eq_true, Nat.zero_le]; exact go (some true)
    · simp (maxSteps := 400000) only [vSs, vS, vE, vEs, vT, vTo, vI, startD, endsOf, List.map_cons, List.map_nil, List.length_cons, List.length_nil, List.replicate, List.cons_append, List.nil_append, Nat.reduceAdd, Nat.reduceSub, Nat.reduceLeDiff, List.getElem?_cons_zero, List.getElem?_cons_succ, Option.some.injEq, exists_eq_left', exists_eq_left, exists_eq', exists_eq, bindT, bindTs, List.set_cons_zero, List.set_cons_succ, ixV, atI0, atI1, atI2, atI3, cmpV, cmpEq, cmpIs, fOp, fCmp, binV, augV, Bi.wp, Bi.val, truD, wipeR, slotsT, slotsTs, Int.cast_ofNat_Int, seqV, seqF, seqL, Option.map_some, D.ref.injEq, D.int.injEq, D.bl.injEq, MO.lst.injEq, exists_and_left, exists_and_right, updM_same, updM_updM, ixN0, ixN1, ixN2, ifB, ifNB, Bool.not_true, Bool.not_false, Bool.false_eq_true, Bool.true_eq_false, if_true, if_false, ite_true, ite_false, true_and, and_true, or_true, true_or, or_false, false_or, false_and, and_false, String.reduceEq, eq_self, decide_true, decide_false, exIf, ne_eq, not_false_eq_true, Nat.zero_le]; exact go (some false)
    · simp (maxSteps := 400000) only [vSs, vS, vE, vEs, vT, vTo, vI, startD, endsOf, List.map_cons, List.map_nil, List.length_cons, List.length_nil, List.replicate, List.cons_append, List.nil_append, Nat.reduceAdd, Nat.reduceSub, Nat.reduceLeDiff, List.getElem?_cons_zero, List.getElem?_cons_succ, Option.some.injEq, exists_eq_left', exists_eq_left, exists_eq', exists_eq, bindT, bindTs, List.set_cons_zero, List.set_cons_succ, ixV, atI0, atI1, atI2, atI3, cmpV, cmpEq, cmpIs, fOp, fCmp, binV, augV, Bi.wp, Bi.val, truD, wipeR, slotsT, slotsTs, Int.cast_ofNat_Int, seqV, seqF, seqL, Option.map_some, D.ref.injEq, D.int.injEq, D.bl.injEq, MO.lst.injEq, exists_and_left, exists_and_right, updM_same, updM_updM, ixN0, ixN1, ixN2, ifB, ifNB, Bool.not_true, Bool.not_false, Bool.false_eq_true, Bool.true_eq_false, if_true, if_false, ite_true, ite_false, true_and, and_true, or_true, true_or, or_false, false_or, false_and, and_false, String.reduceEq, eq_self, decide_true, decide_false, exIf, ne_eq, not_false_eq_true, Nat.zero_le]; exact go none
  · rintro acc M' ⟨es, rfl, he, m⟩
    simp (maxSteps := 400000) only [vSs, vS, vE, vEs, vT, vTo, vI, startD, endsOf, List.map_cons, List.map_nil, List.length_cons, List.length_nil, List.replicate, List.cons_append, List.nil_append, Nat.reduceAdd, Nat.reduceSub, Nat.reduceLeDiff, List.getElem?_cons_zero, List.getElem?_cons_succ, Option.some.injEq, exists_eq_left', exists_eq_left, exists_eq', exists_eq, bindT, bindTs, List.set_cons_zero, List.set_cons_succ, ixV, atI0, atI1, atI2, atI3, cmpV, cmpEq, cmpIs, fOp, fCmp, binV, augV, Bi.wp, Bi.val, truD, wipeR, slotsT, slotsTs, Int.cast_ofNat_Int, seqV, seqF, seqL, Option.map_some, D.ref.injEq, D.int.injEq, D.bl.injEq, MO.lst.injEq, exists_and_left, exists_and_right, updM_same, updM_updM, ixN0, ixN1, ixN2, ifB, ifNB, Bool.not_true, Bool.not_false, Bool.false_eq_true, Bool.true_eq_false, if_true, if_false, ite_true, ite_false, true_and, and_true, or_true, true_or, or_false, false_or, false_and, and_false, String.reduceEq, eq_self, decide_true, decide_false, exIf, ne_eq, not_false_eq_true, Nat.zero_le, b_law_free_box_4]
    intro r hr
    simp (maxSteps := 400000) only [vSs, vS, vE, vEs, vT, vTo, vI, startD, endsOf, List.map_cons, List.map_nil, List.length_cons, List.length_nil, List.replicate, List.cons_append, List.nil_append, Nat.reduceAdd, Nat.reduceSub, Nat.reduceLeDiff, List.getElem?_cons_zero, List.getElem?_cons_succ, Option.some.injEq, exists_eq_left', exists_eq_left, exists_eq', exists_eq, bindT, bindTs, List.set_cons_zero, List.set_cons_succ, ixV, atI0, atI1, atI2, atI3, cmpV, cmpEq, cmpIs, fOp, fCmp, binV, augV, Bi.wp, Bi.val, truD, wipeR, slotsT, slotsTs, Int.cast_ofNat_Int, seqV, seqF, seqL, Option.map_some, D.ref.injEq, D.int.injEq, D.bl.injEq, MO.lst.injEq, exists_and_left, exists_and_right, updM_same, updM_updM, ixN0, ixN1, ixN2, ifB, ifNB, Bool.not_true, Bool.not_false, Bool.false_eq_true, Bool.true_eq_false, if_true, if_false, ite_true, ite_false, true_and, and_true, or_true, true_or, or_false, false_or, false_and, and_false, String.reduceEq, eq_self, decide_true, decide_false, exIf, ne_eq, not_false_eq_true, Nat.zero_le, b_law_free_box_3]
    refine vFor_run _ (fun (L : List (Int × Int)) ρ M' => ∃ (s2 : List (Int × Int)) (x y : Option D), ρ = [some (.ref p), some (.int f), some (.lst (ss.map dS)), some (.tup (es.map dB)), none, some (.ref r), x, y] ∧ s2.length + L.length = ss.length ∧ Good L ∧ Good s2 ∧ Loc M M' p ns r (s2.map dS)) ?_ ?_ ss _ _ ⟨[], _, _, rfl, by simp, g, by simp [Good], Loc.new m hr⟩
    · rintro ⟨u, v⟩ L ρ M' ⟨s2, _, _, rfl, hl, gl, g2, l⟩
      refine ⟨_, rfl, fun N hN => ?_⟩
      rw [List.length_cons] at hl
      have gu := gl (u, v) List.mem_cons_self
      simp (maxSteps := 400000) only [vSs, vS, vE, vEs, vT, vTo, vI, startD, endsOf, List.map_cons, List.map_nil, List.length_cons, List.length_nil, List.replicate, List.cons_append, List.nil_append, Nat.reduceAdd, Nat.reduceSub, Nat.reduceLeDiff, List.getElem?_cons_zero, List.getElem?_cons_succ, Option.some.injEq, exists_eq_left', exists_eq_left, exists_eq', exists_eq, bindT, bindTs, List.set_cons_zero, List.set_cons_succ, ixV, atI0, atI1, atI2, atI3, cmpV, cmpEq, cmpIs, fOp, fCmp, binV, augV, Bi.wp, Bi.val, truD, wipeR, slotsT, slotsTs, Int.cast_ofNat_Int, seqV, seqF, seqL, Option.map_some, D.ref.injEq, D.int.injEq, D.bl.injEq, MO.lst.injEq, exists_and_left, exists_and_right, updM_same, updM_updM, ixN0, ixN1, ixN2, ifB, ifNB, Bool.not_true, Bool.not_false, Bool.false_eq_true, Bool.true_eq_false, if_true, if_false, ite_true, ite_false, true_and, and_true, or_true, true_or, or_false, false_or, false_and, and_false, String.reduceEq, eq_self, decide_true, decide_false, exIf, ne_eq, not_false_eq_true, Nat.zero_le, b_law_free_box_1, l.at']
      refine ⟨p, ns, u, v, rfl, gu.1, gu.2.1, gu.2.2, l.mv.2, fun a b M2 ha hb hc m2 => ?_⟩
      have l2 := l.draw m2
      simp (maxSteps := 400000) only [vSs, vS, vE, vEs, vT, vTo, vI, startD, endsOf, List.map_cons, List.map_nil, List.length_cons, List.length_nil, List.replicate, List.cons_append, List.nil_append, Nat.reduceAdd, Nat.reduceSub, Nat.reduceLeDiff, List.getElem?_cons_zero, List.getElem?_cons_succ, Option.some.injEq, exists_eq_left', exists_eq_left, exists_eq', exists_eq, bindT, bindTs, List.set_cons_zero, List.set_cons_succ, ixV, atI0, atI1, atI2, atI3, cmpV, cmpEq, cmpIs, fOp, fCmp, binV, augV, Bi.wp, Bi.val, truD, wipeR, slotsT, slotsTs, Int.cast_ofNat_Int, seqV, seqF, seqL, Option.map_some, D.ref.injEq, D.int.injEq, D.bl.injEq, MO.lst.injEq, exists_and_left, exists_and_right, updM_same, updM_updM, ixN0, ixN1, ixN2, ifB, ifNB, Bool.not_true, Bool.not_false, Bool.false_eq_true, Bool.true_eq_false, if_true, if_false, ite_true, ite_false, true_and, and_true, or_true, true_or, or_false, false_or, false_and, and_false, String.reduceEq, eq_self, decide_true, decide_false, exIf, ne_eq, not_false_eq_true, Nat.zero_le, l2.at', List.length_map]
      refine ⟨by omega, hN _ _ ⟨s2 ++ [(a, b)], _, _, rfl, by simp; omega, fun s hs => gl s (List.mem_cons_of_mem _ hs), ?_, by rw [List.map_append]; exact l2.set⟩⟩
      intro s hs
      rcases List.mem_append.mp hs with h | h
      · exact g2 s h
      · obtain rfl := List.mem_singleton.mp h
        simp only at gu ⊢
        omega
    · rintro ρ M' ⟨s2, _, _, rfl, hl, gl, g2, l⟩
      simp (maxSteps := 400000) only [vSs, vS, vE, vEs, vT, vTo, vI, startD, endsOf, List.map_cons, List.map_nil, List.length_cons, List.length_nil, List.replicate, List.cons_append, List.nil_append, Nat.reduceAdd, Nat.reduceSub, Nat.reduceLeDiff, List.getElem?_cons_zero, List.getElem?_cons_succ, Option.some.injEq, exists_eq_left', exists_eq_left, exists_eq', exists_eq, bindT, bindTs, List.set_cons_zero, List.set_cons_succ, ixV, atI0, atI1, atI2, atI3, cmpV, cmpEq, cmpIs, fOp, fCmp, binV, augV, Bi.wp, Bi.val, truD, wipeR, slotsT, slotsTs, Int.cast_ofNat_Int, seqV, seqF, seqL, Option.map_some, D.ref.injEq, D.int.injEq, D.bl.injEq, MO.lst.injEq, exists_and_left, exists_and_right, updM_same, updM_updM, ixN0, ixN1, ixN2, ifB, ifNB, Bool.not_true, Bool.not_false, Bool.false_eq_true, Bool.true_eq_false, if_true, if_false, ite_true, ite_false, true_and, and_true, or_true, true_or, or_false, false_or, false_and, and_false, String.reduceEq, eq_self, decide_true, decide_false, exIf, ne_eq, not_false_eq_true, Nat.zero_le, b_law_free_box_2, l.at']
      refine ⟨_, Sub.refl _, q es s2 _ (by simpa using he) (by simpa using hl) g2 l.mv⟩
def C_near : Con := fun ds M Q _ => ∃ (p : Addr) (ns : List Int) (es : List (Option Bool)) (ss ws : List (Int × Int)), ds = [.ref p, dX es ss, .lst (ws.map dS)] ∧ es.length ≤ 120 ∧ ss.length ≤ 30 ∧ ws.length = ss.length ∧ Stream M p ns ∧ ∀ (e2 : List (Option Bool)) (s2 : List (Int × Int)) M', e2.length = es.length → s2.length = ss.length → Mv M M' p ns → Q (dX e2 s2) M'
theorem w_near (ds : List D) (M : Mo) (Q : QE) (X : XQ) (h : C_near ds M Q X) : vSs [F_next] b_law_near (endsOf Q X) (startD 11 ds) M := by
  obtain ⟨p, ns, es, ss, ws, rfl, h1, h2, h3, hs, q⟩ := h
  simp (maxSteps := 400000) only [vSs, vS, vE, vEs, vT, vTo, vI, startD, endsOf, List.map_cons, List.map_nil, List.length_cons, List.length_nil, List.replicate, List.cons_append, List.nil_append, Nat.reduceAdd, Nat.reduceSub, Nat.reduceLeDiff, List.getElem?_cons_zero, List.getElem?_cons_succ, Option.some.injEq, exists_eq_left', exists_eq_left, exists_eq', exists_eq, bindT, bindTs, List.set_cons_zero, List.set_cons_succ, ixV, atI0, atI1, atI2, atI3, cmpV, cmpEq, cmpIs, fOp, fCmp, binV, augV, Bi.wp, Bi.val, truD, wipeR, slotsT, slotsTs, Int.cast_ofNat_Int, seqV, seqF, seqL, Option.map_some, D.ref.injEq, D.int.injEq, D.bl.injEq, MO.lst.injEq, exists_and_left, exists_and_right, updM_same, updM_updM, ixN0, ixN1, ixN2, ifB, ifNB, Bool.not_true, Bool.not_false, Bool.false_eq_true, Bool.true_eq_false, if_true, if_false, ite_true, ite_false, true_and, and_true, or_true, true_or, or_false, false_or, false_and, and_false, String.reduceEq, eq_self, decide_true, decide_false, exIf, ne_eq, not_false_eq_true, Nat.zero_le, b_law_near]
  intro r hr
  simp (maxSteps := 400000) only [vSs, vS, vE, vEs, vT, vTo, vI, startD, endsOf, List.map_cons, List.map_nil, List.length_cons, List.length_nil, List.replicate, List.cons_append, List.nil_append, Nat.reduceAdd, Nat.reduceSub, Nat.reduceLeDiff, List.getElem?_cons_zero, List.getElem?_cons_succ, Option.some.injEq, exists_eq_left', exists_eq_left, exists_eq', exists_eq, bindT, bindTs, List.set_cons_zero, List.set_cons_succ, ixV, atI0, atI1, atI2, atI3, cmpV, cmpEq, cmpIs, fOp, fCmp, binV, augV, Bi.wp, Bi.val, truD, wipeR, slotsT, slotsTs, Int.cast_ofNat_Int, seqV, seqF, seqL, Option.map_some, D.ref.injEq, D.int.injEq, D.bl.injEq, MO.lst.injEq, exists_and_left, exists_and_right, updM_same, updM_updM, ixN0, ixN1, ixN2, ifB, ifNB, Bool.not_true, Bool.not_false, Bool.false_eq_true, Bool.true_eq_false, if_true, if_false, ite_true, ite_false, true_and, and_true, or_true, true_or, or_false, false_or, false_and, and_false, String.reduceEq, eq_self, decide_true, decide_false, exIf, ne_eq, not_false_eq_true, Nat.zero_le, b_law_near_13, dX]
  refine vFor_run _ (fun (L : List (Option Bool)) ρ M' => ∃ (e2 : List (Option Bool)) (x y z : Option D), ρ = [some (.ref p), some (dX es ss), some (.lst (ws.map dS)), some (.ref r), x, y, z, none, none, none, none] ∧ e2.length + L.length = es.length ∧ Loc M M' p ns r (e2.map dB)) ?_ ?_ es _ _ ⟨[], _, _, _, rfl, by simp, Loc.new (Mv.refl hs) hr⟩
  · rintro o L ρ M' ⟨e2, _, _, _, rfl, hl, l⟩
    refine ⟨_, rfl, fun N hN => ?_⟩
    rw [List.length_cons] at hl
    simp (maxSteps := 400000) only [vSs, vS, vE, vEs, vT, vTo, vI, startD, endsOf, List.map_cons, List.map_nil, List.length_cons, List.length_nil, List.replicate, List.cons_append, List.nil_append, Nat.reduceAdd, Nat.reduceSub, Nat.reduceLeDiff, List.getElem?_cons_zero, List.getElem?_cons_succ, Option.some.injEq, exists_eq_left', exists_eq_left, exists_eq', exists_eq, bindT, bindTs, List.set_cons_zero, List.set_cons_succ, ixV, atI0, atI1, atI2, atI3, cmpV, cmpEq, cmpIs, fOp, fCmp, binV, augV, Bi.wp, Bi.val, truD, wipeR, slotsT, slotsTs, Int.cast_ofNat_Int, seqV, seqF, seqL, Option.map_some, D.ref.injEq, D.int.injEq, D.bl.injEq, MO.lst.injEq, exists_and_left, exists_and_right, updM_same, updM_updM, ixN0, ixN1, ixN2, ifB, ifNB, Bool.not_true, Bool.not_false, Bool.false_eq_true, Bool.true_eq_false, if_true, if_false, ite_true, ite_false, true_and, and_true, or_true, true_or, or_false, false_or, false_and, and_false, String.reduceEq, eq_self, decide_true, decide_false, exIf, ne_eq, not_false_eq_true, Nat.zero_le, b_law_near_5]
    refine use_next l.mv.2 (by decide) (by decide) fun k M2 k0 k1 m2 => ?_
    have l2 := l.draw m2
    have fin : ∀ (x : Option D) (o' : Option Bool) (K : EndsD), K.nx = N → vSs [F_next] b_law_near_2 K [some (.ref p), some (dX es ss), some (.lst (ws.map dS)), some (.ref r), x, some (.int k), some (dB o'), none, none, none, none] M2 := by
      intro x o' K hK
      simp (maxSteps := 400000) only [vSs, vS, vE, vEs, vT, vTo, vI, startD, endsOf, List.map_cons, List.map_nil, List.length_cons, List.length_nil, List.replicate, List.cons_append, List.nil_append, Nat.reduceAdd, Nat.reduceSub, Nat.reduceLeDiff, List.getElem?_cons_zero, List.getElem?_cons_succ, Option.some.injEq, exists_eq_left', exists_eq_left, exists_eq', exists_eq, bindT, bindTs, List.set_cons_zero, List.set_cons_succ, ixV, atI0, atI1, atI2, atI3, cmpV, cmpEq, cmpIs, fOp, fCmp, binV, augV, Bi.wp, Bi.val, truD, wipeR, slotsT, slotsTs, Int.cast_ofNat_Int, seqV, seqF, seqL, Option.map_some, D.ref.injEq, D.int.injEq, D.bl.injEq, MO.lst.injEq, exists_and_left, exists_and_right, updM_same, updM_updM, ixN0, ixN1, ixN2, ifB, ifNB, Bool.not_true, Bool.not_false, Bool.false_eq_true, Bool.true_eq_false, if_true, if_false, ite_true, ite_false, true_and, and_true, or_true, true_or, or_false, false_or, false_and, and_false, String.reduceEq, eq_self, decide_true, decide_false, exIf, ne_eq, not_false_eq_true, Nat.zero_le, b_law_near_2, l2.at', List.length_map, hK]
      refine ⟨by omega, hN _ _ ⟨e2 ++ [o'], _, _, _, rfl, by simp; omega, by rw [List.map_append]; exact l2.set⟩⟩
    simp (maxSteps := 400000) only [vSs, vS, vE, vEs, vT, vTo, vI, startD, endsOf, List.map_cons, List.map_nil, List.length_cons, List.length_nil, List.replicate, List.cons_append, List.nil_append, Nat.reduceAdd, Nat.reduceSub, Nat.reduceLeDiff, List.getElem?_cons_zero, List.getElem?_cons_succ, Option.some.injEq, exists_eq_left', exists_eq_left, exists_eq', exists_eq, bindT, bindTs, List.set_cons_zero, List.set_cons_succ, ixV, atI0, atI1, atI2, atI3, cmpV, cmpEq, cmpIs, fOp, fCmp, binV, augV, Bi.wp, Bi.val, truD, wipeR, slotsT, slotsTs, Int.cast_ofNat_Int, seqV, seqF, seqL, Option.map_some, D.ref.injEq, D.int.injEq, D.bl.injEq, MO.lst.injEq, exists_and_left, exists_and_right, updM_same, updM_updM, ixN0, ixN1, ixN2, ifB, ifNB, Bool.not_true, Bool.not_false, Bool.false_eq_true, Bool.true_eq_false, if_true, if_false, ite_true, ite_false, true_and, and_true, or_true, true_or, or_false, false_or, false_and, and_false, String.reduceEq, eq_self, decide_true, decide_false, exIf, ne_eq, not_false_eq_true, Nat.zero_le, b_law_near_4]
    simp (maxSteps := 400000) only [vSs, vS, vE, vEs, vT, vTo, vI, startD, endsOf, List.map_cons, List.map_nil, List.length_cons, List.length_nil, List.replicate, List.cons_append, List.nil_append, Nat.reduceAdd, Nat.reduceSub, Nat.reduceLeDiff, List.getElem?_cons_zero, List.getElem?_cons_succ, Option.some.injEq, exists_eq_left', exists_eq_left, exists_eq', exists_eq, bindT, bindTs, List.set_cons_zero, List.set_cons_succ, ixV, atI0, atI1, atI2, atI3, cmpV, cmpEq, cmpIs, fOp, fCmp, binV, augV, Bi.wp, Bi.val, truD, wipeR, slotsT, slotsTs, Int.cast_ofNat_Int, seqV, seqF, seqL, Option.map_some, D.ref.injEq, D.int.injEq, D.bl.injEq, MO.lst.injEq, exists_and_left, exists_and_right, updM_same, updM_updM, ixN0, ixN1, ixN2, ifB, ifNB, Bool.not_true, Bool.not_false, Bool.false_eq_true, Bool.true_eq_false, if_true, if_false, ite_true, ite_false, true_and, and_true, or_true, true_or, or_false, false_or, false_and, and_false, String.reduceEq, eq_self, decide_true, decide_false, exIf, ne_eq, not_false_eq_true, Nat.zero_le, b_law_near_3]
    refine iteI (fun _ => ?_) (fun _ => ?_)
    · have : k = 0 ∨ k = 1 ∨ k = 2 := by omega
      rcases this with rfl | rfl | rfl
      · simp (maxSteps := 400000) only [vSs, vS, vE, vEs, vT, vTo, vI, startD, endsOf, List.map_cons, List.map_nil, List.length_cons, List.length_nil, List.replicate, List.cons_append, List.nil_append, Nat.reduceAdd, Nat.reduceSub, Nat.reduceLeDiff, List.getElem?_cons_zero, List.getElem?_cons_succ, Option.some.injEq, exists_eq_left', exists_eq_left, exists_eq', exists_eq, bindT, bindTs, List.set_cons_zero, List.set_cons_succ, ixV, atI0, atI1, atI2, atI3, cmpV, cmpEq, cmpIs, fOp, fCmp, binV, augV, Bi.wp, Bi.val, truD, wipeR, slotsT, slotsTs, Int.cast_ofNat_Int, seqV, seqF, seqL, Option.map_some, D.ref.injEq, D.int.injEq, D.bl.injEq, MO.lst.injEq, exists_and_left, exists_and_right, updM_same, updM_updM, ixN0, ixN1, ixN2, ifB, ifNB, Bool.not_true, Bool.not_false, Bool.false_eq_true, Bool.true_eq_false, if_true, if_false, ite_true, ite_false, true_and, and_true, or_true, true_or, or_false, false_or, false_and, and_false, String.reduceEq, eq_self, decide_true, decide_false, exIf, ne_eq, not_false_eq_true, Nat.zero_le, b_law_near_1]; exact fin _ none _ rfl
      · simp (maxSteps := 400000) only [vSs, vS, vE, vEs, vT, vTo, vI, startD, endsOf, List.map_cons, List.map_nil, List.length_cons, List.length_nil, List.replicate, List.cons_append, List.nil_append, Nat.reduceAdd, Nat.reduceSub, Nat.reduceLeDiff, List.getElem?_cons_zero, List.getElem?_cons_succ, Option.some.injEq, exists_eq_left', exists_eq_left, exists_eq', exists_eq, bindT, bindTs, List.set_cons_zero, List.set_cons_succ, ixV, atI0, atI1, atI2, atI3, cmpV, cmpEq, cmpIs, fOp, fCmp, binV, augV, Bi.wp, Bi.val, truD, wipeR, slotsT, slotsTs, Int.cast_ofNat_Int, seqV, seqF, seqL, Option.map_some, D.ref.injEq, D.int.injEq, D.bl.injEq, MO.lst.injEq, exists_and_left, exists_and_right, updM_same, updM_updM, ixN0, ixN1, ixN2, ifB, ifNB, Bool.not_true, Bool.not_false, Bool.false_eq_true, Bool.true_eq_false, if_true, if_false, ite_true, ite_false, true_and, and_true, or_true, true_or, or_false, false_or, false_and, and_false, String.reduceEq, eq_self, decide_true, decide_false, exIf, ne_eq, not_false_eq_true, Nat.zero_le, b_law_near_1]; exact fin _ (some true) _ rfl
      · simp (maxSteps := 400000) only [vSs, vS, vE, vEs, vT, vTo, vI, startD, endsOf, List.map_cons, List.map_nil, List.length_cons, List.length_nil, List.replicate, List.cons_append, List.nil_append, Nat.reduceAdd, Nat.reduceSub, Nat.reduceLeDiff, List.getElem?_cons_zero, List.getElem?_cons_succ, Option.some.injEq, exists_eq_left', exists_eq_left, exists_eq', exists_eq, bindT, bindTs, List.set_cons_zero, List.set_cons_succ, ixV, atI0, atI1, atI2, atI3, cmpV, cmpEq, cmpIs, fOp, fCmp, binV, augV, Bi.wp, Bi.val, truD, wipeR, slotsT, slotsTs, Int.cast_ofNat_Int, seqV, seqF, seqL, Option.map_some, D.ref.injEq, D.int.injEq, D.bl.injEq, MO.lst.injEq, exists_and_left, exists_and_right, updM_same, updM_updM, ixN0, ixN1, ixN2, ifB, ifNB, Bool.not_true, Bool.not_false, Bool.false_eq_true, Bool.true_eq_false, if_true, if_false, ite_true, ite_false, true_and, and_true, or_true, true_or, or_false, false_or, false_and, and_false, String.reduceEq, eq_self, decide_true, decide_false, exIf, ne_eq, not_false_eq_true, Nat.zero_le, b_law_near_1]; exact fin _ (some false) _ rfl
    · exact fin _ _ _ rfl
  · rintro ρ M' ⟨e2, o4, o5, o6, rfl, hl, l⟩
    simp (maxSteps := 400000) only [vSs, vS, vE, vEs, vT, vTo, vI, startD, endsOf, List.map_cons, List.map_nil, List.length_cons, List.length_nil, List.replicate, List.cons_append, List.nil_append, Nat.reduceAdd, Nat.reduceSub, Nat.reduceLeDiff, List.getElem?_cons_zero, List.getElem?_cons_succ, Option.some.injEq, exists_eq_left', exists_eq_left, exists_eq', exists_eq, bindT, bindTs, List.set_cons_zero, List.set_cons_succ, ixV, atI0, atI1, atI2, atI3, cmpV, cmpEq, cmpIs, fOp, fCmp, binV, augV, Bi.wp, Bi.val, truD, wipeR, slotsT, slotsTs, Int.cast_ofNat_Int, seqV, seqF, seqL, Option.map_some, D.ref.injEq, D.int.injEq, D.bl.injEq, MO.lst.injEq, exists_and_left, exists_and_right, updM_same, updM_updM, ixN0, ixN1, ixN2, ifB, ifNB, Bool.not_true, Bool.not_false, Bool.false_eq_true, Bool.true_eq_false, if_true, if_false, ite_true, ite_false, true_and, and_true, or_true, true_or, or_false, false_or, false_and, and_false, String.reduceEq, eq_self, decide_true, decide_false, exIf, ne_eq, not_false_eq_true, Nat.zero_le, b_law_near_12]
    intro r' hr'
    simp (maxSteps := 400000) only [vSs, vS, vE, vEs, vT, vTo, vI, startD, endsOf, List.map_cons, List.map_nil, List.length_cons, List.length_nil, List.replicate, List.cons_append, List.nil_append, Nat.reduceAdd, Nat.reduceSub, Nat.reduceLeDiff, List.getElem?_cons_zero, List.getElem?_cons_succ, Option.some.injEq, exists_eq_left', exists_eq_left, exists_eq', exists_eq, bindT, bindTs, List.set_cons_zero, List.set_cons_succ, ixV, atI0, atI1, atI2, atI3, cmpV, cmpEq, cmpIs, fOp, fCmp, binV, augV, Bi.wp, Bi.val, truD, wipeR, slotsT, slotsTs, Int.cast_ofNat_Int, seqV, seqF, seqL, Option.map_some, D.ref.injEq, D.int.injEq, D.bl.injEq, MO.lst.injEq, exists_and_left, exists_and_right, updM_same, updM_updM, ixN0, ixN1, ixN2, ifB, ifNB, Bool.not_true, Bool.not_false, Bool.false_eq_true, Bool.true_eq_false, if_true, if_false, ite_true, ite_false, true_and, and_true, or_true, true_or, or_false, false_or, false_and, and_false, String.reduceEq, eq_self, decide_true, decide_false, exIf, ne_eq, not_false_eq_true, Nat.zero_le, b_law_near_11, dX, zipWith_pair]
    have hz : (ss.zip ws).length = ss.length := by simp [h3]
    refine vFor_run _ (fun (L : List ((Int × Int) × (Int × Int))) ρ M'' => ∃ (s2 : List (Int × Int)) (x y z u v : Option D), ρ = [some (.ref p), some (dX es ss), some (.lst (ws.map dS)), some (.ref r), o4, x, some (.ref r'), y, z, u, v] ∧ s2.length + L.length = ss.length ∧ Loc M' M'' p ns r' (s2.map dS)) ?_ ?_ (ss.zip ws) _ _ ⟨[], _, _, _, _, _, rfl, by simp [h3], Loc.new (Mv.refl l.mv.2) hr'⟩
    · rintro ⟨u, v⟩ L ρ M'' ⟨s2, _, _, _, _, _, rfl, hl, l2⟩
      refine ⟨_, rfl, fun N hN => ?_⟩
      rw [List.length_cons] at hl
      simp (maxSteps := 400000) only [vSs, vS, vE, vEs, vT, vTo, vI, startD, endsOf, List.map_cons, List.map_nil, List.length_cons, List.length_nil, List.replicate, List.cons_append, List.nil_append, Nat.reduceAdd, Nat.reduceSub, Nat.reduceLeDiff, List.getElem?_cons_zero, List.getElem?_cons_succ, Option.some.injEq, exists_eq_left', exists_eq_left, exists_eq', exists_eq, bindT, bindTs, List.set_cons_zero, List.set_cons_succ, ixV, atI0, atI1, atI2, atI3, cmpV, cmpEq, cmpIs, fOp, fCmp, binV, augV, Bi.wp, Bi.val, truD, wipeR, slotsT, slotsTs, Int.cast_ofNat_Int, seqV, seqF, seqL, Option.map_some, D.ref.injEq, D.int.injEq, D.bl.injEq, MO.lst.injEq, exists_and_left, exists_and_right, updM_same, updM_updM, ixN0, ixN1, ixN2, ifB, ifNB, Bool.not_true, Bool.not_false, Bool.false_eq_true, Bool.true_eq_false, if_true, if_false, ite_true, ite_false, true_and, and_true, or_true, true_or, or_false, false_or, false_and, and_false, String.reduceEq, eq_self, decide_true, decide_false, exIf, ne_eq, not_false_eq_true, Nat.zero_le, b_law_near_9, prD]
      refine use_next l2.mv.2 (by decide) (by decide) fun k M3 k0 k1 m3 => ?_
      have l3 := l2.draw m3
      simp (maxSteps := 400000) only [vSs, vS, vE, vEs, vT, vTo, vI, startD, endsOf, List.map_cons, List.map_nil, List.length_cons, List.length_nil, List.replicate, List.cons_append, List.nil_append, Nat.reduceAdd, Nat.reduceSub, Nat.reduceLeDiff, List.getElem?_cons_zero, List.getElem?_cons_succ, Option.some.injEq, exists_eq_left', exists_eq_left, exists_eq', exists_eq, bindT, bindTs, List.set_cons_zero, List.set_cons_succ, ixV, atI0, atI1, atI2, atI3, cmpV, cmpEq, cmpIs, fOp, fCmp, binV, augV, Bi.wp, Bi.val, truD, wipeR, slotsT, slotsTs, Int.cast_ofNat_Int, seqV, seqF, seqL, Option.map_some, D.ref.injEq, D.int.injEq, D.bl.injEq, MO.lst.injEq, exists_and_left, exists_and_right, updM_same, updM_updM, ixN0, ixN1, ixN2, ifB, ifNB, Bool.not_true, Bool.not_false, Bool.false_eq_true, Bool.true_eq_false, if_true, if_false, ite_true, ite_false, true_and, and_true, or_true, true_or, or_false, false_or, false_and, and_false, String.reduceEq, eq_self, decide_true, decide_false, exIf, ne_eq, not_false_eq_true, Nat.zero_le, b_law_near_8, dS]
      repeat (refine And.intro (by omega) ?_)
      simp (maxSteps := 400000) only [vSs, vS, vE, vEs, vT, vTo, vI, startD, endsOf, List.map_cons, List.map_nil, List.length_cons, List.length_nil, List.replicate, List.cons_append, List.nil_append, Nat.reduceAdd, Nat.reduceSub, Nat.reduceLeDiff, List.getElem?_cons_zero, List.getElem?_cons_succ, Option.some.injEq, exists_eq_left', exists_eq_left, exists_eq', exists_eq, bindT, bindTs, List.set_cons_zero, List.set_cons_succ, ixV, atI0, atI1, atI2, atI3, cmpV, cmpEq, cmpIs, fOp, fCmp, binV, augV, Bi.wp, Bi.val, truD, wipeR, slotsT, slotsTs, Int.cast_ofNat_Int, seqV, seqF, seqL, Option.map_some, D.ref.injEq, D.int.injEq, D.bl.injEq, MO.lst.injEq, exists_and_left, exists_and_right, updM_same, updM_updM, ixN0, ixN1, ixN2, ifB, ifNB, Bool.not_true, Bool.not_false, Bool.false_eq_true, Bool.true_eq_false, if_true, if_false, ite_true, ite_false, true_and, and_true, or_true, true_or, or_false, false_or, false_and, and_false, String.reduceEq, eq_self, decide_true, decide_false, exIf, ne_eq, not_false_eq_true, Nat.zero_le, b_law_near_7]
      repeat (refine And.intro (by omega) ?_)
      simp (maxSteps := 400000) only [vSs, vS, vE, vEs, vT, vTo, vI, startD, endsOf, List.map_cons, List.map_nil, List.length_cons, List.length_nil, List.replicate, List.cons_append, List.nil_append, Nat.reduceAdd, Nat.reduceSub, Nat.reduceLeDiff, List.getElem?_cons_zero, List.getElem?_cons_succ, Option.some.injEq, exists_eq_left', exists_eq_left, exists_eq', exists_eq, bindT, bindTs, List.set_cons_zero, List.set_cons_succ, ixV, atI0, atI1, atI2, atI3, cmpV, cmpEq, cmpIs, fOp, fCmp, binV, augV, Bi.wp, Bi.val, truD, wipeR, slotsT, slotsTs, Int.cast_ofNat_Int, seqV, seqF, seqL, Option.map_some, D.ref.injEq, D.int.injEq, D.bl.injEq, MO.lst.injEq, exists_and_left, exists_and_right, updM_same, updM_updM, ixN0, ixN1, ixN2, ifB, ifNB, Bool.not_true, Bool.not_false, Bool.false_eq_true, Bool.true_eq_false, if_true, if_false, ite_true, ite_false, true_and, and_true, or_true, true_or, or_false, false_or, false_and, and_false, String.reduceEq, eq_self, decide_true, decide_false, exIf, ne_eq, not_false_eq_true, Nat.zero_le, b_law_near_6, l3.at', List.length_map]
      repeat (refine And.intro (by omega) ?_)
      refine hN _ _ ⟨s2 ++ [(_, _)], _, _, _, _, _, rfl, by simp; omega, by rw [List.map_append]; exact l3.set⟩
    · rintro ρ M'' ⟨s2, _, _, _, _, _, rfl, hl2, l2⟩
      simp (maxSteps := 400000) only [vSs, vS, vE, vEs, vT, vTo, vI, startD, endsOf, List.map_cons, List.map_nil, List.length_cons, List.length_nil, List.replicate, List.cons_append, List.nil_append, Nat.reduceAdd, Nat.reduceSub, Nat.reduceLeDiff, List.getElem?_cons_zero, List.getElem?_cons_succ, Option.some.injEq, exists_eq_left', exists_eq_left, exists_eq', exists_eq, bindT, bindTs, List.set_cons_zero, List.set_cons_succ, ixV, atI0, atI1, atI2, atI3, cmpV, cmpEq, cmpIs, fOp, fCmp, binV, augV, Bi.wp, Bi.val, truD, wipeR, slotsT, slotsTs, Int.cast_ofNat_Int, seqV, seqF, seqL, Option.map_some, D.ref.injEq, D.int.injEq, D.bl.injEq, MO.lst.injEq, exists_and_left, exists_and_right, updM_same, updM_updM, ixN0, ixN1, ixN2, ifB, ifNB, Bool.not_true, Bool.not_false, Bool.false_eq_true, Bool.true_eq_false, if_true, if_false, ite_true, ite_false, true_and, and_true, or_true, true_or, or_false, false_or, false_and, and_false, String.reduceEq, eq_self, decide_true, decide_false, exIf, ne_eq, not_false_eq_true, Nat.zero_le, b_law_near_10, (l.draw l2.mv).at', l2.at']
      exact ⟨_, Sub.refl _, q _ _ _ (by simpa using hl) (by simpa using hl2) (l.mv.trans l2.mv)⟩
end K19
namespace K19
open PySem PySem.Spec PyProof.Rows L2 Vp

/-! ### what the boxes are, with no program -/
theorem fM_comm : ∀ (e1 e2 : List (Option Bool)), fM (e1.zip e2) = fM (e2.zip e1)
  | [], [] => rfl
  | [], _ :: _ => rfl
  | _ :: _, [] => rfl
  | a :: e1, b :: e2 => by
    simp only [List.zip_cons_cons, fM, fM_comm e1 e2]
    have h1 : fBad a b = fBad b a := by cases a <;> cases b <;> simp [fBad, bne_comm]
    rw [h1]
    by_cases h : fBad b a = true
    · simp [h]
    · have h2 : fOne a b = fOne b a := by
        cases a <;> cases b <;> simp [fBad, fOne] at h ⊢
        rw [h]
      simp [h, h2]
theorem sOne_comm (a b : Int × Int) : sOne a b = sOne b a := by
  unfold sOne
  refine Prod.ext ?_ ?_
  · simp only; split <;> split <;> omega
  · simp only; split <;> split <;> omega
theorem sM_comm : ∀ (s1 s2 : List (Int × Int)), sM (s1.zip s2) = sM (s2.zip s1)
  | [], [] => rfl
  | [], _ :: _ => rfl
  | _ :: _, [] => rfl
  | a :: e1, b :: e2 => by
    simp only [List.zip_cons_cons, sM, sM_comm e1 e2, sOne_comm a b]
theorem boxM_comm (e1 e2 : List (Option Bool)) (s1 s2 : List (Int × Int)) : boxM e1 e2 s1 s2 = boxM e2 e1 s2 s1 := by
  unfold boxM
  rw [fM_comm, sM_comm]
theorem fM_in : ∀ (hs : List Bool) (e1 e2 es : List (Option Bool)), e1.length = hs.length → e2.length = hs.length → fM (e1.zip e2) = some es → (hs.zip e1).all (fun p => fIn p.1 p.2) = true → (hs.zip es).all (fun p => fIn p.1 p.2) = (hs.zip e2).all (fun p => fIn p.1 p.2)
  | [], _, _, _, _, _, _, _ => by simp
  | h :: hs, [], _, _, a, _, _, _ => by simp at a
  | h :: hs, _ :: _, [], _, _, a, _, _ => by simp at a
  | h :: hs, a :: e1, b :: e2, es, l1, l2, e, g => by
    simp only [List.zip_cons_cons, fM] at e
    by_cases hb : fBad a b = true
    · simp [hb] at e
    · simp only [hb] at e
      cases hf : fM (e1.zip e2) with
      | none => rw [hf] at e; simp at e
      | some et =>
        rw [hf] at e
        simp at e
        subst e
        simp only [List.zip_cons_cons, List.all_cons, Bool.and_eq_true] at g ⊢
        rw [fM_in hs e1 e2 et (by simpa using l1) (by simpa using l2) hf g.2]
        have : fIn h (fOne a b) = fIn h b := by
          obtain ⟨g, _⟩ := g
          cases a <;> cases b <;> simp [fBad, fOne, fIn] at hb g ⊢
          · exact g
          · rw [hb]
        rw [this]
theorem sM_in : ∀ (hs : List Int) (e1 e2 es : List (Int × Int)), e1.length = hs.length → e2.length = hs.length → sM (e1.zip e2) = some es → (hs.zip e1).all (fun p => sIn p.1 p.2) = true → (hs.zip es).all (fun p => sIn p.1 p.2) = (hs.zip e2).all (fun p => sIn p.1 p.2)
  | [], _, _, _, _, _, _, _ => by simp
  | h :: hs, [], _, _, a, _, _, _ => by simp at a
  | h :: hs, _ :: _, [], _, _, a, _, _ => by simp at a
  | h :: hs, a :: e1, b :: e2, es, l1, l2, e, g => by
    simp only [List.zip_cons_cons, sM] at e
    by_cases hb : (sOne a b).2 < (sOne a b).1
    · simp [hb] at e
    · simp only [hb] at e
      cases hf : sM (e1.zip e2) with
      | none => rw [hf] at e; simp at e
      | some et =>
        rw [hf] at e
        simp at e
        subst e
        simp only [List.zip_cons_cons, List.all_cons, Bool.and_eq_true] at g ⊢
        rw [sM_in hs e1 e2 et (by simpa using l1) (by simpa using l2) hf g.2]
        have : sIn h (sOne a b) = sIn h b := by
          obtain ⟨g, _⟩ := g
          simp only [sIn, Bool.and_eq_true, decide_eq_true_eq] at g
          simp only [sIn, sOne]
          congr 1
          · refine decide_eq_decide.mpr ?_
            split <;> omega
          · refine decide_eq_decide.mpr ?_
            split <;> omega
        rw [this]
theorem sM_ok : ∀ (L : List ((Int × Int) × (Int × Int))) (ss : List (Int × Int)), sM L = some ss → ∀ s ∈ ss, s.1 ≤ s.2
  | [], ss, e, s, h => by simp [sM] at e; subst e; simp at h
  | p :: L, ss, e, s, h => by
    simp only [sM] at e
    by_cases hb : (sOne p.1 p.2).2 < (sOne p.1 p.2).1
    · simp [hb] at e
    · simp only [hb] at e
      cases hf : sM L with
      | none => rw [hf] at e; simp at e
      | some et =>
        rw [hf] at e
        simp at e
        subst e
        rcases List.mem_cons.mp h with rfl | h
        · omega
        · exact sM_ok L et hf s h
theorem boxM_ok {e1 e2 : List (Option Bool)} {s1 s2 : List (Int × Int)} {x : List (Option Bool) × List (Int × Int)} (h : boxM e1 e2 s1 s2 = some x) : ∀ s ∈ x.2, s.1 ≤ s.2 := by
  unfold boxM at h
  cases hf : fM (e1.zip e2) with
  | none => simp [hf] at h
  | some es =>
    cases hs : sM (s1.zip s2) with
    | none => simp [hf, hs] at h
    | some ss => simp [hf, hs] at h; subst h; exact sM_ok _ _ hs
theorem boxM_in {hs : List Bool} {vs : List Int} {e1 e2 : List (Option Bool)} {s1 s2 : List (Int × Int)} {x : List (Option Bool) × List (Int × Int)} (h : boxM e1 e2 s1 s2 = some x) (l1 : e1.length = hs.length) (l2 : e2.length = hs.length) (l3 : s1.length = vs.length) (l4 : s2.length = vs.length) (i : inM hs vs e1 s1 = true) : inM hs vs x.1 x.2 = inM hs vs e2 s2 := by
  obtain ⟨i1, i2⟩ := Bool.and_eq_true_iff.mp i
  unfold boxM at h
  cases hf : fM (e1.zip e2) with
  | none => simp [hf] at h
  | some es =>
    cases hs : sM (s1.zip s2) with
    | none => simp [hf, hs] at h
    | some ss =>
      simp [hf, hs] at h; subst h
      unfold inM
      rw [fM_in _ _ _ _ l1 l2 hf i1, sM_in _ _ _ _ l3 l4 hs i2]

def C_state : Con := fun ds M Q _ => ∃ (p : Addr) (ns : List Int) (es : List (Option Bool)) (ss : List (Int × Int)), ds = [.ref p, dX es ss] ∧ es.length ≤ 120 ∧ ss.length ≤ 30 ∧ Good ss ∧ Stream M p ns ∧ ∀ (hs : List Bool) (vs : List Int) M', hs.length = es.length → vs.length = ss.length → inM hs vs es ss = true → Mv M M' p ns → Q (dT hs vs) M'
theorem w_state (ds : List D) (M : Mo) (Q : QE) (X : XQ) (h : C_state ds M Q X) : vSs [F_next] b_law_state (endsOf Q X) (startD 8 ds) M := by
  obtain ⟨p, ns, es, ss, rfl, h1, h2, g, hs, q⟩ := h
  simp (maxSteps := 400000) only [vSs, vS, vE, vEs, vT, vTo, vI, startD, endsOf, List.map_cons, List.map_nil, List.length_cons, List.length_nil, List.replicate, List.cons_append, List.nil_append, Nat.reduceAdd, Nat.reduceSub, Nat.reduceLeDiff, List.getElem?_cons_zero, List.getElem?_cons_succ, Option.some.injEq, exists_eq_left', exists_eq_left, exists_eq', exists_eq, bindT, bindTs, List.set_cons_zero, List.set_cons_succ, ixV, atI0, atI1, atI2, atI3, cmpV, cmpEq, cmpIs, fOp, fCmp, binV, augV, Bi.wp, Bi.val, truD, wipeR, slotsT, slotsTs, Int.cast_ofNat_Int, seqV, seqF, seqL, Option.map_some, D.ref.injEq, D.int.injEq, D.bl.injEq, MO.lst.injEq, exists_and_left, exists_and_right, updM_same, updM_updM, ixN0, ixN1, ixN2, ifB, ifNB, Bool.not_true, Bool.not_false, Bool.false_eq_true, Bool.true_eq_false, if_true, if_false, ite_true, ite_false, true_and, and_true, or_true, true_or, or_false, false_or, false_and, and_false, String.reduceEq, eq_self, decide_true, decide_false, exIf, ne_eq, not_false_eq_true, Nat.zero_le, b_law_state]
  intro r hr
  simp (maxSteps := 400000) only [vSs, vS, vE, vEs, vT, vTo, vI, startD, endsOf, List.map_cons, List.map_nil, List.length_cons, List.length_nil, List.replicate, List.cons_append, List.nil_append, Nat.reduceAdd, Nat.reduceSub, Nat.reduceLeDiff, List.getElem?_cons_zero, List.getElem?_cons_succ, Option.some.injEq, exists_eq_left', exists_eq_left, exists_eq', exists_eq, bindT, bindTs, List.set_cons_zero, List.set_cons_succ, ixV, atI0, atI1, atI2, atI3, cmpV, cmpEq, cmpIs, fOp, fCmp, binV, augV, Bi.wp, Bi.val, truD, wipeR, slotsT, slotsTs, Int.cast_ofNat_Int, seqV, seqF, seqL, Option.map_some, D.ref.injEq, D.int.injEq, D.bl.injEq, MO.lst.injEq, exists_and_left, exists_and_right, updM_same, updM_updM, ixN0, ixN1, ixN2, ifB, ifNB, Bool.not_true, Bool.not_false, Bool.false_eq_true, Bool.true_eq_false, if_true, if_false, ite_true, ite_false, true_and, and_true, or_true, true_or, or_false, false_or, false_and, and_false, String.reduceEq, eq_self, decide_true, decide_false, exIf, ne_eq, not_false_eq_true, Nat.zero_le, b_law_state_7, dX]
  refine vFor_run _ (fun (L : List (Option Bool)) ρ M' => ∃ (hs : List Bool) (dn : List (Option Bool)) (x y : Option D), ρ = [some (.ref p), some (dX es ss), some (.ref r), x, y, none, none, none] ∧ es = dn ++ L ∧ hs.length = dn.length ∧ (hs.zip dn).all (fun p => fIn p.1 p.2) = true ∧ Loc M M' p ns r (hs.map .bl)) ?_ ?_ es _ _ ⟨[], [], _, _, rfl, rfl, rfl, rfl, Loc.new (Mv.refl hs) hr⟩
  · rintro o L ρ M' ⟨hs, dn, _, _, rfl, he, hl, ha, l⟩
    refine ⟨_, rfl, fun N hN => ?_⟩
    simp (maxSteps := 400000) only [vSs, vS, vE, vEs, vT, vTo, vI, startD, endsOf, List.map_cons, List.map_nil, List.length_cons, List.length_nil, List.replicate, List.cons_append, List.nil_append, Nat.reduceAdd, Nat.reduceSub, Nat.reduceLeDiff, List.getElem?_cons_zero, List.getElem?_cons_succ, Option.some.injEq, exists_eq_left', exists_eq_left, exists_eq', exists_eq, bindT, bindTs, List.set_cons_zero, List.set_cons_succ, ixV, atI0, atI1, atI2, atI3, cmpV, cmpEq, cmpIs, fOp, fCmp, binV, augV, Bi.wp, Bi.val, truD, wipeR, slotsT, slotsTs, Int.cast_ofNat_Int, seqV, seqF, seqL, Option.map_some, D.ref.injEq, D.int.injEq, D.bl.injEq, MO.lst.injEq, exists_and_left, exists_and_right, updM_same, updM_updM, ixN0, ixN1, ixN2, ifB, ifNB, Bool.not_true, Bool.not_false, Bool.false_eq_true, Bool.true_eq_false, if_true, if_false, ite_true, ite_false, true_and, and_true, or_true, true_or, or_false, false_or, false_and, and_false, String.reduceEq, eq_self, decide_true, decide_false, exIf, ne_eq, not_false_eq_true, Nat.zero_le, b_law_state_4]
    refine use_next l.mv.2 (by decide) (by decide) fun k M2 k0 k1 m2 => ?_
    have l2 := l.draw m2
    have len : hs.length < 16777216 := by
      have := congrArg List.length he
      simp at this; omega
    have fin : ∀ (b : Bool) (x : Option D) (K : EndsD), K.nx = N → fIn b o = true → vSs [F_next] b_law_state_2 K [some (.ref p), some (dX es ss), some (.ref r), x, some (.bl b), none, none, none] M2 := by
      intro b x K hK hb
      simp (maxSteps := 400000) only [vSs, vS, vE, vEs, vT, vTo, vI, startD, endsOf, List.map_cons, List.map_nil, List.length_cons, List.length_nil, List.replicate, List.cons_append, List.nil_append, Nat.reduceAdd, Nat.reduceSub, Nat.reduceLeDiff, List.getElem?_cons_zero, List.getElem?_cons_succ, Option.some.injEq, exists_eq_left', exists_eq_left, exists_eq', exists_eq, bindT, bindTs, List.set_cons_zero, List.set_cons_succ, ixV, atI0, atI1, atI2, atI3, cmpV, cmpEq, cmpIs, fOp, fCmp, binV, augV, Bi.wp, Bi.val, truD, wipeR, slotsT, slotsTs, Int.cast_ofNat_Int, seqV, seqF, seqL, Option.map_some, D.ref.injEq, D.int.injEq, D.bl.injEq, MO.lst.injEq, exists_and_left, exists_and_right, updM_same, updM_updM, ixN0, ixN1, ixN2, ifB, ifNB, Bool.not_true, Bool.not_false, Bool.false_eq_true, Bool.true_eq_false, if_true, if_false, ite_true, ite_false, true_and, and_true, or_true, true_or, or_false, false_or, false_and, and_false, String.reduceEq, eq_self, decide_true, decide_false, exIf, ne_eq, not_false_eq_true, Nat.zero_le, b_law_state_2, l2.at', List.length_map, hK]
      refine ⟨len, hN _ _ ⟨hs ++ [b], dn ++ [o], _, _, rfl, by simpa using he, by simp [hl], ?_, by rw [List.map_append]; exact l2.set⟩⟩
      rw [List.zip_append hl, List.all_append, ha]
      simpa using hb
    simp (maxSteps := 400000) only [vSs, vS, vE, vEs, vT, vTo, vI, startD, endsOf, List.map_cons, List.map_nil, List.length_cons, List.length_nil, List.replicate, List.cons_append, List.nil_append, Nat.reduceAdd, Nat.reduceSub, Nat.reduceLeDiff, List.getElem?_cons_zero, List.getElem?_cons_succ, Option.some.injEq, exists_eq_left', exists_eq_left, exists_eq', exists_eq, bindT, bindTs, List.set_cons_zero, List.set_cons_succ, ixV, atI0, atI1, atI2, atI3, cmpV, cmpEq, cmpIs, fOp, fCmp, binV, augV, Bi.wp, Bi.val, truD, wipeR, slotsT, slotsTs, Int.cast_ofNat_Int, seqV, seqF, seqL, Option.map_some, D.ref.injEq, D.int.injEq, D.bl.injEq, MO.lst.injEq, exists_and_left, exists_and_right, updM_same, updM_updM, ixN0, ixN1, ixN2, ifB, ifNB, Bool.not_true, Bool.not_false, Bool.false_eq_true, Bool.true_eq_false, if_true, if_false, ite_true, ite_false, true_and, and_true, or_true, true_or, or_false, false_or, false_and, and_false, String.reduceEq, eq_self, decide_true, decide_false, exIf, ne_eq, not_false_eq_true, Nat.zero_le]
    cases o with
    | none =>
      simp (maxSteps := 400000) only [vSs, vS, vE, vEs, vT, vTo, vI, startD, endsOf, List.map_cons, List.map_nil, List.length_cons, List.length_nil, List.replicate, List.cons_append, List.nil_append, Nat.reduceAdd, Nat.reduceSub, Nat.reduceLeDiff, List.getElem?_cons_zero, List.getElem?_cons_succ, Option.some.injEq, exists_eq_left', exists_eq_left, exists_eq', exists_eq, bindT, bindTs, List.set_cons_zero, List.set_cons_succ, ixV, atI0, atI1, atI2, atI3, cmpV, cmpEq, cmpIs, fOp, fCmp, binV, augV, Bi.wp, Bi.val, truD, wipeR, slotsT, slotsTs, Int.cast_ofNat_Int, seqV, seqF, seqL, Option.map_some, D.ref.injEq, D.int.injEq, D.bl.injEq, MO.lst.injEq, exists_and_left, exists_and_right, updM_same, updM_updM, ixN0, ixN1, ixN2, ifB, ifNB, Bool.not_true, Bool.not_false, Bool.false_eq_true, Bool.true_eq_false, if_true, if_false, ite_true, ite_false, true_and, and_true, or_true, true_or, or_false, false_or, false_and, and_false, String.reduceEq, eq_self, decide_true, decide_false, exIf, ne_eq, not_false_eq_true, Nat.zero_le, b_law_state_3, dB]
      exact fin _ _ _ rfl rfl
    | some b =>
      simp (maxSteps := 400000) only [vSs, vS, vE, vEs, vT, vTo, vI, startD, endsOf, List.map_cons, List.map_nil, List.length_cons, List.length_nil, List.replicate, List.cons_append, List.nil_append, Nat.reduceAdd, Nat.reduceSub, Nat.reduceLeDiff, List.getElem?_cons_zero, List.getElem?_cons_succ, Option.some.injEq, exists_eq_left', exists_eq_left, exists_eq', exists_eq, bindT, bindTs, List.set_cons_zero, List.set_cons_succ, ixV, atI0, atI1, atI2, atI3, cmpV, cmpEq, cmpIs, fOp, fCmp, binV, augV, Bi.wp, Bi.val, truD, wipeR, slotsT, slotsTs, Int.cast_ofNat_Int, seqV, seqF, seqL, Option.map_some, D.ref.injEq, D.int.injEq, D.bl.injEq, MO.lst.injEq, exists_and_left, exists_and_right, updM_same, updM_updM, ixN0, ixN1, ixN2, ifB, ifNB, Bool.not_true, Bool.not_false, Bool.false_eq_true, Bool.true_eq_false, if_true, if_false, ite_true, ite_false, true_and, and_true, or_true, true_or, or_false, false_or, false_and, and_false, String.reduceEq, eq_self, decide_true, decide_false, exIf, ne_eq, not_false_eq_true, Nat.zero_le, b_law_state_3, dB]
      simp (maxSteps := 400000) only [vSs, vS, vE, vEs, vT, vTo, vI, startD, endsOf, List.map_cons, List.map_nil, List.length_cons, List.length_nil, List.replicate, List.cons_append, List.nil_append, Nat.reduceAdd, Nat.reduceSub, Nat.reduceLeDiff, List.getElem?_cons_zero, List.getElem?_cons_succ, Option.some.injEq, exists_eq_left', exists_eq_left, exists_eq', exists_eq, bindT, bindTs, List.set_cons_zero, List.set_cons_succ, ixV, atI0, atI1, atI2, atI3, cmpV, cmpEq, cmpIs, fOp, fCmp, binV, augV, Bi.wp, Bi.val, truD, wipeR, slotsT, slotsTs, Int.cast_ofNat_Int, seqV, seqF, seqL, Option.map_some, D.ref.injEq, D.int.injEq, D.bl.injEq, MO.lst.injEq, exists_and_left, exists_and_right, updM_same, updM_updM, ixN0, ixN1, ixN2, ifB, ifNB, Bool.not_true, Bool.not_false, Bool.false_eq_true, Bool.true_eq_false, if_true, if_false, ite_true, ite_false, true_and, and_true, or_true, true_or, or_false, false_or, false_and, and_false, String.reduceEq, eq_self, decide_true, decide_false, exIf, ne_eq, not_false_eq_true, Nat.zero_le, b_law_state_1]
      exact fin _ _ _ rfl (by simp [fIn])
  · rintro ρ M' ⟨hs, dn, o3, o4, rfl, he, hl, ha, l⟩
    have he : es = dn := by simpa using he
    subst he
    simp (maxSteps := 400000) only [vSs, vS, vE, vEs, vT, vTo, vI, startD, endsOf, List.map_cons, List.map_nil, List.length_cons, List.length_nil, List.replicate, List.cons_append, List.nil_append, Nat.reduceAdd, Nat.reduceSub, Nat.reduceLeDiff, List.getElem?_cons_zero, List.getElem?_cons_succ, Option.some.injEq, exists_eq_left', exists_eq_left, exists_eq', exists_eq, bindT, bindTs, List.set_cons_zero, List.set_cons_succ, ixV, atI0, atI1, atI2, atI3, cmpV, cmpEq, cmpIs, fOp, fCmp, binV, augV, Bi.wp, Bi.val, truD, wipeR, slotsT, slotsTs, Int.cast_ofNat_Int, seqV, seqF, seqL, Option.map_some, D.ref.injEq, D.int.injEq, D.bl.injEq, MO.lst.injEq, exists_and_left, exists_and_right, updM_same, updM_updM, ixN0, ixN1, ixN2, ifB, ifNB, Bool.not_true, Bool.not_false, Bool.false_eq_true, Bool.true_eq_false, if_true, if_false, ite_true, ite_false, true_and, and_true, or_true, true_or, or_false, false_or, false_and, and_false, String.reduceEq, eq_self, decide_true, decide_false, exIf, ne_eq, not_false_eq_true, Nat.zero_le, b_law_state_6, dX, List.length_map]
    refine ⟨by omega, ?_⟩
    refine vComp_run _ (fun (L : List (Int × Int)) acc M2 => ∃ (vs : List Int) (dn : List (Int × Int)), acc = vs.map .int ∧ ss = dn ++ L ∧ vs.length = dn.length ∧ (vs.zip dn).all (fun p => sIn p.1 p.2) = true ∧ Mv M' M2 p ns) ?_ ?_ _ _ _ ⟨[], [], rfl, rfl, rfl, rfl, Mv.refl l.mv.2⟩
    · rintro ⟨u, v⟩ L acc M2 ⟨vs, dn, rfl, he, hl, ha, m⟩
      refine ⟨_, rfl, fun N hN => ?_⟩
      have gu := g (u, v) (by rw [he]; simp)
      simp only at gu
      simp (maxSteps := 400000) only [vSs, vS, vE, vEs, vT, vTo, vI, startD, endsOf, List.map_cons, List.map_nil, List.length_cons, List.length_nil, List.replicate, List.cons_append, List.nil_append, Nat.reduceAdd, Nat.reduceSub, Nat.reduceLeDiff, List.getElem?_cons_zero, List.getElem?_cons_succ, Option.some.injEq, exists_eq_left', exists_eq_left, exists_eq', exists_eq, bindT, bindTs, List.set_cons_zero, List.set_cons_succ, ixV, atI0, atI1, atI2, atI3, cmpV, cmpEq, cmpIs, fOp, fCmp, binV, augV, Bi.wp, Bi.val, truD, wipeR, slotsT, slotsTs, Int.cast_ofNat_Int, seqV, seqF, seqL, Option.map_some, D.ref.injEq, D.int.injEq, D.bl.injEq, MO.lst.injEq, exists_and_left, exists_and_right, updM_same, updM_updM, ixN0, ixN1, ixN2, ifB, ifNB, Bool.not_true, Bool.not_false, Bool.false_eq_true, Bool.true_eq_false, if_true, if_false, ite_true, ite_false, true_and, and_true, or_true, true_or, or_false, false_or, false_and, and_false, String.reduceEq, eq_self, decide_true, decide_false, exIf, ne_eq, not_false_eq_true, Nat.zero_le]
      refine use_next m.2 (by omega) (by omega) fun k M3 k0 k1 m3 => ?_
      simp (maxSteps := 400000) only [vSs, vS, vE, vEs, vT, vTo, vI, startD, endsOf, List.map_cons, List.map_nil, List.length_cons, List.length_nil, List.replicate, List.cons_append, List.nil_append, Nat.reduceAdd, Nat.reduceSub, Nat.reduceLeDiff, List.getElem?_cons_zero, List.getElem?_cons_succ, Option.some.injEq, exists_eq_left', exists_eq_left, exists_eq', exists_eq, bindT, bindTs, List.set_cons_zero, List.set_cons_succ, ixV, atI0, atI1, atI2, atI3, cmpV, cmpEq, cmpIs, fOp, fCmp, binV, augV, Bi.wp, Bi.val, truD, wipeR, slotsT, slotsTs, Int.cast_ofNat_Int, seqV, seqF, seqL, Option.map_some, D.ref.injEq, D.int.injEq, D.bl.injEq, MO.lst.injEq, exists_and_left, exists_and_right, updM_same, updM_updM, ixN0, ixN1, ixN2, ifB, ifNB, Bool.not_true, Bool.not_false, Bool.false_eq_true, Bool.true_eq_false, if_true, if_false, ite_true, ite_false, true_and, and_true, or_true, true_or, or_false, false_or, false_and, and_false, String.reduceEq, eq_self, decide_true, decide_false, exIf, ne_eq, not_false_eq_true, Nat.zero_le]
      refine hN _ _ ⟨vs ++ [u + k], dn ++ [(u, v)], by simp, by simpa using he, by simp [hl], ?_, m.trans m3⟩
      rw [List.zip_append hl, List.all_append, ha]
      simp [sIn]; omega
    · rintro acc M2 ⟨vs, dn, rfl, he, hl2, ha2, m⟩
      have he : ss = dn := by simpa using he
      subst he
      simp (maxSteps := 400000) only [vSs, vS, vE, vEs, vT, vTo, vI, startD, endsOf, List.map_cons, List.map_nil, List.length_cons, List.length_nil, List.replicate, List.cons_append, List.nil_append, Nat.reduceAdd, Nat.reduceSub, Nat.reduceLeDiff, List.getElem?_cons_zero, List.getElem?_cons_succ, Option.some.injEq, exists_eq_left', exists_eq_left, exists_eq', exists_eq, bindT, bindTs, List.set_cons_zero, List.set_cons_succ, ixV, atI0, atI1, atI2, atI3, cmpV, cmpEq, cmpIs, fOp, fCmp, binV, augV, Bi.wp, Bi.val, truD, wipeR, slotsT, slotsTs, Int.cast_ofNat_Int, seqV, seqF, seqL, Option.map_some, D.ref.injEq, D.int.injEq, D.bl.injEq, MO.lst.injEq, exists_and_left, exists_and_right, updM_same, updM_updM, ixN0, ixN1, ixN2, ifB, ifNB, Bool.not_true, Bool.not_false, Bool.false_eq_true, Bool.true_eq_false, if_true, if_false, ite_true, ite_false, true_and, and_true, or_true, true_or, or_false, false_or, false_and, and_false, String.reduceEq, eq_self, decide_true, decide_false, exIf, ne_eq, not_false_eq_true, Nat.zero_le, b_law_state_5, (l.draw m).at']
      exact ⟨_, Sub.refl _, q hs vs _ hl hl2 (by simp only [inM, ha, ha2, Bool.and_true]) (l.mv.trans m)⟩
abbrev G_law : List Fn := [F_stream, F_next, ⟨"_law_sizes", 1, C_sizes⟩, ⟨"_law_ranges", 2, C_ranges⟩, ⟨"_law_free_box", 3, C_fbox⟩, ⟨"_law_near", 3, C_near⟩, ⟨"_law_state", 2, C_state⟩, ⟨"_law_due", 2, C_box⟩, ⟨"_law_box_same", 2, C_same⟩, ⟨"common_box", 2, C_box⟩, ⟨"in_box", 2, C_in⟩, ⟨"_law_in", 2, C_in⟩]
def C_law : Con := fun ds M Q _ => ∃ ns : List Int, ds = [.lst (ns.map .int)] ∧ ∀ M', Q (.bl true) M'
theorem w_law (ds : List D) (M : Mo) (Q : QE) (X : XQ) (h : C_law ds M Q X) : vSs G_law b_law (endsOf Q X) (startD 12 ds) M := by
  obtain ⟨ns, rfl, q⟩ := h
  simp (maxSteps := 400000) only [vSs, vS, vE, vEs, vT, vTo, vI, startD, endsOf, List.map_cons, List.map_nil, List.length_cons, List.length_nil, List.replicate, List.cons_append, List.nil_append, Nat.reduceAdd, Nat.reduceSub, Nat.reduceLeDiff, List.getElem?_cons_zero, List.getElem?_cons_succ, Option.some.injEq, exists_eq_left', exists_eq_left, exists_eq', exists_eq, bindT, bindTs, List.set_cons_zero, List.set_cons_succ, ixV, atI0, atI1, atI2, atI3, cmpV, cmpEq, cmpIs, fOp, fCmp, binV, augV, Bi.wp, Bi.val, truD, wipeR, slotsT, slotsTs, Int.cast_ofNat_Int, seqV, seqF, seqL, Option.map_some, D.ref.injEq, D.int.injEq, D.bl.injEq, MO.lst.injEq, exists_and_left, exists_and_right, updM_same, updM_updM, ixN0, ixN1, ixN2, ifB, ifNB, Bool.not_true, Bool.not_false, Bool.false_eq_true, Bool.true_eq_false, if_true, if_false, ite_true, ite_false, true_and, and_true, or_true, true_or, or_false, false_or, false_and, and_false, String.reduceEq, eq_self, decide_true, decide_false, exIf, ne_eq, not_false_eq_true, Nat.zero_le, b_law]
  refine ⟨ns, rfl, fun p M1 m1 => ?_⟩
  simp (maxSteps := 400000) only [vSs, vS, vE, vEs, vT, vTo, vI, startD, endsOf, List.map_cons, List.map_nil, List.length_cons, List.length_nil, List.replicate, List.cons_append, List.nil_append, Nat.reduceAdd, Nat.reduceSub, Nat.reduceLeDiff, List.getElem?_cons_zero, List.getElem?_cons_succ, Option.some.injEq, exists_eq_left', exists_eq_left, exists_eq', exists_eq, bindT, bindTs, List.set_cons_zero, List.set_cons_succ, ixV, atI0, atI1, atI2, atI3, cmpV, cmpEq, cmpIs, fOp, fCmp, binV, augV, Bi.wp, Bi.val, truD, wipeR, slotsT, slotsTs, Int.cast_ofNat_Int, seqV, seqF, seqL, Option.map_some, D.ref.injEq, D.int.injEq, D.bl.injEq, MO.lst.injEq, exists_and_left, exists_and_right, updM_same, updM_updM, ixN0, ixN1, ixN2, ifB, ifNB, Bool.not_true, Bool.not_false, Bool.false_eq_true, Bool.true_eq_false, if_true, if_false, ite_true, ite_false, true_and, and_true, or_true, true_or, or_false, false_or, false_and, and_false, String.reduceEq, eq_self, decide_true, decide_false, exIf, ne_eq, not_false_eq_true, Nat.zero_le, b_law_22]
  refine use_next m1.2 (by decide) (by decide) fun r M2 r0 r1 m2 => ?_
  simp (maxSteps := 400000) only [vSs, vS, vE, vEs, vT, vTo, vI, startD, endsOf, List.map_cons, List.map_nil, List.length_cons, List.length_nil, List.replicate, List.cons_append, List.nil_append, Nat.reduceAdd, Nat.reduceSub, Nat.reduceLeDiff, List.getElem?_cons_zero, List.getElem?_cons_succ, Option.some.injEq, exists_eq_left', exists_eq_left, exists_eq', exists_eq, bindT, bindTs, List.set_cons_zero, List.set_cons_succ, ixV, atI0, atI1, atI2, atI3, cmpV, cmpEq, cmpIs, fOp, fCmp, binV, augV, Bi.wp, Bi.val, truD, wipeR, slotsT, slotsTs, Int.cast_ofNat_Int, seqV, seqF, seqL, Option.map_some, D.ref.injEq, D.int.injEq, D.bl.injEq, MO.lst.injEq, exists_and_left, exists_and_right, updM_same, updM_updM, ixN0, ixN1, ixN2, ifB, ifNB, Bool.not_true, Bool.not_false, Bool.false_eq_true, Bool.true_eq_false, if_true, if_false, ite_true, ite_false, true_and, and_true, or_true, true_or, or_false, false_or, false_and, and_false, String.reduceEq, eq_self, decide_true, decide_false, exIf, ne_eq, not_false_eq_true, Nat.zero_le, b_law_21]
  refine ⟨p, ns, rfl, m2.2, fun f n M3 f0 f1 n0 n1 m3 => ?_⟩
  simp (maxSteps := 400000) only [vSs, vS, vE, vEs, vT, vTo, vI, startD, endsOf, List.map_cons, List.map_nil, List.length_cons, List.length_nil, List.replicate, List.cons_append, List.nil_append, Nat.reduceAdd, Nat.reduceSub, Nat.reduceLeDiff, List.getElem?_cons_zero, List.getElem?_cons_succ, Option.some.injEq, exists_eq_left', exists_eq_left, exists_eq', exists_eq, bindT, bindTs, List.set_cons_zero, List.set_cons_succ, ixV, atI0, atI1, atI2, atI3, cmpV, cmpEq, cmpIs, fOp, fCmp, binV, augV, Bi.wp, Bi.val, truD, wipeR, slotsT, slotsTs, Int.cast_ofNat_Int, seqV, seqF, seqL, Option.map_some, D.ref.injEq, D.int.injEq, D.bl.injEq, MO.lst.injEq, exists_and_left, exists_and_right, updM_same, updM_updM, ixN0, ixN1, ixN2, ifB, ifNB, Bool.not_true, Bool.not_false, Bool.false_eq_true, Bool.true_eq_false, if_true, if_false, ite_true, ite_false, true_and, and_true, or_true, true_or, or_false, false_or, false_and, and_false, String.reduceEq, eq_self, decide_true, decide_false, exIf, ne_eq, not_false_eq_true, Nat.zero_le, b_law_20]
  refine ⟨p, ns, n, rfl, n0, n1, m3.2, fun ws M4 hw g m4 => ?_⟩
  simp (maxSteps := 400000) only [vSs, vS, vE, vEs, vT, vTo, vI, startD, endsOf, List.map_cons, List.map_nil, List.length_cons, List.length_nil, List.replicate, List.cons_append, List.nil_append, Nat.reduceAdd, Nat.reduceSub, Nat.reduceLeDiff, List.getElem?_cons_zero, List.getElem?_cons_succ, Option.some.injEq, exists_eq_left', exists_eq_left, exists_eq', exists_eq, bindT, bindTs, List.set_cons_zero, List.set_cons_succ, ixV, atI0, atI1, atI2, atI3, cmpV, cmpEq, cmpIs, fOp, fCmp, binV, augV, Bi.wp, Bi.val, truD, wipeR, slotsT, slotsTs, Int.cast_ofNat_Int, seqV, seqF, seqL, Option.map_some, D.ref.injEq, D.int.injEq, D.bl.injEq, MO.lst.injEq, exists_and_left, exists_and_right, updM_same, updM_updM, ixN0, ixN1, ixN2, ifB, ifNB, Bool.not_true, Bool.not_false, Bool.false_eq_true, Bool.true_eq_false, if_true, if_false, ite_true, ite_false, true_and, and_true, or_true, true_or, or_false, false_or, false_and, and_false, String.reduceEq, eq_self, decide_true, decide_false, exIf, ne_eq, not_false_eq_true, Nat.zero_le, b_law_19]
  refine ⟨p, ns, f, ws, rfl, f0, f1, by omega, g, m4.2, fun e1 s1 M5 l1 l2 g1 m5 => ?_⟩
  simp (maxSteps := 400000) only [vSs, vS, vE, vEs, vT, vTo, vI, startD, endsOf, List.map_cons, List.map_nil, List.length_cons, List.length_nil, List.replicate, List.cons_append, List.nil_append, Nat.reduceAdd, Nat.reduceSub, Nat.reduceLeDiff, List.getElem?_cons_zero, List.getElem?_cons_succ, Option.some.injEq, exists_eq_left', exists_eq_left, exists_eq', exists_eq, bindT, bindTs, List.set_cons_zero, List.set_cons_succ, ixV, atI0, atI1, atI2, atI3, cmpV, cmpEq, cmpIs, fOp, fCmp, binV, augV, Bi.wp, Bi.val, truD, wipeR, slotsT, slotsTs, Int.cast_ofNat_Int, seqV, seqF, seqL, Option.map_some, D.ref.injEq, D.int.injEq, D.bl.injEq, MO.lst.injEq, exists_and_left, exists_and_right, updM_same, updM_updM, ixN0, ixN1, ixN2, ifB, ifNB, Bool.not_true, Bool.not_false, Bool.false_eq_true, Bool.true_eq_false, if_true, if_false, ite_true, ite_false, true_and, and_true, or_true, true_or, or_false, false_or, false_and, and_false, String.reduceEq, eq_self, decide_true, decide_false, exIf, ne_eq, not_false_eq_true, Nat.zero_le, b_law_18]
  refine ⟨p, ns, f, ws, rfl, f0, f1, by omega, g, m5.2, fun e2 s2 M6 l3 l4 g2 m6 => ?_⟩
  have rest : ∀ (e2 : List (Option Bool)) (s2 : List (Int × Int)) (M6 : Mo) (K : EndsD), e2.length = e1.length → s2.length = s1.length → Stream M6 p ns → K.rt = (endsOf Q X).rt → vSs G_law b_law_16 K [some (.lst (ns.map .int)), some (.ref p), some (.bl (decide (r = 1))), some (.int f), some (.int n), some (.lst (ws.map dS)), some (dX e1 s1), some (dX e2 s2), none, none, none, none] M6 := by
    intro e2 s2 M6 K l3 l4 st hK
    simp (maxSteps := 400000) only [vSs, vS, vE, vEs, vT, vTo, vI, startD, endsOf, List.map_cons, List.map_nil, List.length_cons, List.length_nil, List.replicate, List.cons_append, List.nil_append, Nat.reduceAdd, Nat.reduceSub, Nat.reduceLeDiff, List.getElem?_cons_zero, List.getElem?_cons_succ, Option.some.injEq, exists_eq_left', exists_eq_left, exists_eq', exists_eq, bindT, bindTs, List.set_cons_zero, List.set_cons_succ, ixV, atI0, atI1, atI2, atI3, cmpV, cmpEq, cmpIs, fOp, fCmp, binV, augV, Bi.wp, Bi.val, truD, wipeR, slotsT, slotsTs, Int.cast_ofNat_Int, seqV, seqF, seqL, Option.map_some, D.ref.injEq, D.int.injEq, D.bl.injEq, MO.lst.injEq, exists_and_left, exists_and_right, updM_same, updM_updM, ixN0, ixN1, ixN2, ifB, ifNB, Bool.not_true, Bool.not_false, Bool.false_eq_true, Bool.true_eq_false, if_true, if_false, ite_true, ite_false, true_and, and_true, or_true, true_or, or_false, false_or, false_and, and_false, String.reduceEq, eq_self, decide_true, decide_false, exIf, ne_eq, not_false_eq_true, Nat.zero_le, b_law_16]
    refine ⟨p, ns, e1, s1, rfl, by omega, by omega, g1, st, fun hs vs M7 l5 l6 i1 m7 => ?_⟩
    simp (maxSteps := 400000) only [vSs, vS, vE, vEs, vT, vTo, vI, startD, endsOf, List.map_cons, List.map_nil, List.length_cons, List.length_nil, List.replicate, List.cons_append, List.nil_append, Nat.reduceAdd, Nat.reduceSub, Nat.reduceLeDiff, List.getElem?_cons_zero, List.getElem?_cons_succ, Option.some.injEq, exists_eq_left', exists_eq_left, exists_eq', exists_eq, bindT, bindTs, List.set_cons_zero, List.set_cons_succ, ixV, atI0, atI1, atI2, atI3, cmpV, cmpEq, cmpIs, fOp, fCmp, binV, augV, Bi.wp, Bi.val, truD, wipeR, slotsT, slotsTs, Int.cast_ofNat_Int, seqV, seqF, seqL, Option.map_some, D.ref.injEq, D.int.injEq, D.bl.injEq, MO.lst.injEq, exists_and_left, exists_and_right, updM_same, updM_updM, ixN0, ixN1, ixN2, ifB, ifNB, Bool.not_true, Bool.not_false, Bool.false_eq_true, Bool.true_eq_false, if_true, if_false, ite_true, ite_false, true_and, and_true, or_true, true_or, or_false, false_or, false_and, and_false, String.reduceEq, eq_self, decide_true, decide_false, exIf, ne_eq, not_false_eq_true, Nat.zero_le, b_law_15]
    refine ⟨e1, e2, s1, s2, rfl, by omega, by omega, ?_⟩
    simp (maxSteps := 400000) only [vSs, vS, vE, vEs, vT, vTo, vI, startD, endsOf, List.map_cons, List.map_nil, List.length_cons, List.length_nil, List.replicate, List.cons_append, List.nil_append, Nat.reduceAdd, Nat.reduceSub, Nat.reduceLeDiff, List.getElem?_cons_zero, List.getElem?_cons_succ, Option.some.injEq, exists_eq_left', exists_eq_left, exists_eq', exists_eq, bindT, bindTs, List.set_cons_zero, List.set_cons_succ, ixV, atI0, atI1, atI2, atI3, cmpV, cmpEq, cmpIs, fOp, fCmp, binV, augV, Bi.wp, Bi.val, truD, wipeR, slotsT, slotsTs, Int.cast_ofNat_Int, seqV, seqF, seqL, Option.map_some, D.ref.injEq, D.int.injEq, D.bl.injEq, MO.lst.injEq, exists_and_left, exists_and_right, updM_same, updM_updM, ixN0, ixN1, ixN2, ifB, ifNB, Bool.not_true, Bool.not_false, Bool.false_eq_true, Bool.true_eq_false, if_true, if_false, ite_true, ite_false, true_and, and_true, or_true, true_or, or_false, false_or, false_and, and_false, String.reduceEq, eq_self, decide_true, decide_false, exIf, ne_eq, not_false_eq_true, Nat.zero_le, b_law_14]
    refine ⟨e1, e2, s1, s2, rfl, by omega, by omega, boxM e1 e2 s1 s2, rfl, fun x hx => boxM_ok hx, ?_⟩
    simp (maxSteps := 400000) only [vSs, vS, vE, vEs, vT, vTo, vI, startD, endsOf, List.map_cons, List.map_nil, List.length_cons, List.length_nil, List.replicate, List.cons_append, List.nil_append, Nat.reduceAdd, Nat.reduceSub, Nat.reduceLeDiff, List.getElem?_cons_zero, List.getElem?_cons_succ, Option.some.injEq, exists_eq_left', exists_eq_left, exists_eq', exists_eq, bindT, bindTs, List.set_cons_zero, List.set_cons_succ, ixV, atI0, atI1, atI2, atI3, cmpV, cmpEq, cmpIs, fOp, fCmp, binV, augV, Bi.wp, Bi.val, truD, wipeR, slotsT, slotsTs, Int.cast_ofNat_Int, seqV, seqF, seqL, Option.map_some, D.ref.injEq, D.int.injEq, D.bl.injEq, MO.lst.injEq, exists_and_left, exists_and_right, updM_same, updM_updM, ixN0, ixN1, ixN2, ifB, ifNB, Bool.not_true, Bool.not_false, Bool.false_eq_true, Bool.true_eq_false, if_true, if_false, ite_true, ite_false, true_and, and_true, or_true, true_or, or_false, false_or, false_and, and_false, String.reduceEq, eq_self, decide_true, decide_false, exIf, ne_eq, not_false_eq_true, Nat.zero_le, b_law_13]
    refine ⟨e2, e1, s2, s1, rfl, by omega, by omega, boxM e1 e2 s1 s2, by rw [boxM_comm e2 e1], fun x hx => boxM_ok hx, ?_⟩
    simp (maxSteps := 400000) only [vSs, vS, vE, vEs, vT, vTo, vI, startD, endsOf, List.map_cons, List.map_nil, List.length_cons, List.length_nil, List.replicate, List.cons_append, List.nil_append, Nat.reduceAdd, Nat.reduceSub, Nat.reduceLeDiff, List.getElem?_cons_zero, List.getElem?_cons_succ, Option.some.injEq, exists_eq_left', exists_eq_left, exists_eq', exists_eq, bindT, bindTs, List.set_cons_zero, List.set_cons_succ, ixV, atI0, atI1, atI2, atI3, cmpV, cmpEq, cmpIs, fOp, fCmp, binV, augV, Bi.wp, Bi.val, truD, wipeR, slotsT, slotsTs, Int.cast_ofNat_Int, seqV, seqF, seqL, Option.map_some, D.ref.injEq, D.int.injEq, D.bl.injEq, MO.lst.injEq, exists_and_left, exists_and_right, updM_same, updM_updM, ixN0, ixN1, ixN2, ifB, ifNB, Bool.not_true, Bool.not_false, Bool.false_eq_true, Bool.true_eq_false, if_true, if_false, ite_true, ite_false, true_and, and_true, or_true, true_or, or_false, false_or, false_and, and_false, String.reduceEq, eq_self, decide_true, decide_false, exIf, ne_eq, not_false_eq_true, Nat.zero_le, b_law_12]
    refine ⟨hs, vs, e1, s1, rfl, by omega, ?_⟩
    simp (maxSteps := 400000) only [vSs, vS, vE, vEs, vT, vTo, vI, startD, endsOf, List.map_cons, List.map_nil, List.length_cons, List.length_nil, List.replicate, List.cons_append, List.nil_append, Nat.reduceAdd, Nat.reduceSub, Nat.reduceLeDiff, List.getElem?_cons_zero, List.getElem?_cons_succ, Option.some.injEq, exists_eq_left', exists_eq_left, exists_eq', exists_eq, bindT, bindTs, List.set_cons_zero, List.set_cons_succ, ixV, atI0, atI1, atI2, atI3, cmpV, cmpEq, cmpIs, fOp, fCmp, binV, augV, Bi.wp, Bi.val, truD, wipeR, slotsT, slotsTs, Int.cast_ofNat_Int, seqV, seqF, seqL, Option.map_some, D.ref.injEq, D.int.injEq, D.bl.injEq, MO.lst.injEq, exists_and_left, exists_and_right, updM_same, updM_updM, ixN0, ixN1, ixN2, ifB, ifNB, Bool.not_true, Bool.not_false, Bool.false_eq_true, Bool.true_eq_false, if_true, if_false, ite_true, ite_false, true_and, and_true, or_true, true_or, or_false, false_or, false_and, and_false, String.reduceEq, eq_self, decide_true, decide_false, exIf, ne_eq, not_false_eq_true, Nat.zero_le, i1]
    simp (maxSteps := 400000) only [vSs, vS, vE, vEs, vT, vTo, vI, startD, endsOf, List.map_cons, List.map_nil, List.length_cons, List.length_nil, List.replicate, List.cons_append, List.nil_append, Nat.reduceAdd, Nat.reduceSub, Nat.reduceLeDiff, List.getElem?_cons_zero, List.getElem?_cons_succ, Option.some.injEq, exists_eq_left', exists_eq_left, exists_eq', exists_eq, bindT, bindTs, List.set_cons_zero, List.set_cons_succ, ixV, atI0, atI1, atI2, atI3, cmpV, cmpEq, cmpIs, fOp, fCmp, binV, augV, Bi.wp, Bi.val, truD, wipeR, slotsT, slotsTs, Int.cast_ofNat_Int, seqV, seqF, seqL, Option.map_some, D.ref.injEq, D.int.injEq, D.bl.injEq, MO.lst.injEq, exists_and_left, exists_and_right, updM_same, updM_updM, ixN0, ixN1, ixN2, ifB, ifNB, Bool.not_true, Bool.not_false, Bool.false_eq_true, Bool.true_eq_false, if_true, if_false, ite_true, ite_false, true_and, and_true, or_true, true_or, or_false, false_or, false_and, and_false, String.reduceEq, eq_self, decide_true, decide_false, exIf, ne_eq, not_false_eq_true, Nat.zero_le, b_law_11]
    refine ⟨hs, vs, e2, s2, rfl, by omega, ?_⟩
    simp (maxSteps := 400000) only [vSs, vS, vE, vEs, vT, vTo, vI, startD, endsOf, List.map_cons, List.map_nil, List.length_cons, List.length_nil, List.replicate, List.cons_append, List.nil_append, Nat.reduceAdd, Nat.reduceSub, Nat.reduceLeDiff, List.getElem?_cons_zero, List.getElem?_cons_succ, Option.some.injEq, exists_eq_left', exists_eq_left, exists_eq', exists_eq, bindT, bindTs, List.set_cons_zero, List.set_cons_succ, ixV, atI0, atI1, atI2, atI3, cmpV, cmpEq, cmpIs, fOp, fCmp, binV, augV, Bi.wp, Bi.val, truD, wipeR, slotsT, slotsTs, Int.cast_ofNat_Int, seqV, seqF, seqL, Option.map_some, D.ref.injEq, D.int.injEq, D.bl.injEq, MO.lst.injEq, exists_and_left, exists_and_right, updM_same, updM_updM, ixN0, ixN1, ixN2, ifB, ifNB, Bool.not_true, Bool.not_false, Bool.false_eq_true, Bool.true_eq_false, if_true, if_false, ite_true, ite_false, true_and, and_true, or_true, true_or, or_false, false_or, false_and, and_false, String.reduceEq, eq_self, decide_true, decide_false, exIf, ne_eq, not_false_eq_true, Nat.zero_le, b_law_10, instI]
    refine ⟨hs, vs, e2, s2, rfl, by omega, ?_⟩
    simp (maxSteps := 400000) only [vSs, vS, vE, vEs, vT, vTo, vI, startD, endsOf, List.map_cons, List.map_nil, List.length_cons, List.length_nil, List.replicate, List.cons_append, List.nil_append, Nat.reduceAdd, Nat.reduceSub, Nat.reduceLeDiff, List.getElem?_cons_zero, List.getElem?_cons_succ, Option.some.injEq, exists_eq_left', exists_eq_left, exists_eq', exists_eq, bindT, bindTs, List.set_cons_zero, List.set_cons_succ, ixV, atI0, atI1, atI2, atI3, cmpV, cmpEq, cmpIs, fOp, fCmp, binV, augV, Bi.wp, Bi.val, truD, wipeR, slotsT, slotsTs, Int.cast_ofNat_Int, seqV, seqF, seqL, Option.map_some, D.ref.injEq, D.int.injEq, D.bl.injEq, MO.lst.injEq, exists_and_left, exists_and_right, updM_same, updM_updM, ixN0, ixN1, ixN2, ifB, ifNB, Bool.not_true, Bool.not_false, Bool.false_eq_true, Bool.true_eq_false, if_true, if_false, ite_true, ite_false, true_and, and_true, or_true, true_or, or_false, false_or, false_and, and_false, String.reduceEq, eq_self, decide_true, decide_false, exIf, ne_eq, not_false_eq_true, Nat.zero_le, b_law_9]
    cases hb : boxM e1 e2 s1 s2 with
    | none =>
      simp (maxSteps := 400000) only [vSs, vS, vE, vEs, vT, vTo, vI, startD, endsOf, List.map_cons, List.map_nil, List.length_cons, List.length_nil, List.replicate, List.cons_append, List.nil_append, Nat.reduceAdd, Nat.reduceSub, Nat.reduceLeDiff, List.getElem?_cons_zero, List.getElem?_cons_succ, Option.some.injEq, exists_eq_left', exists_eq_left, exists_eq', exists_eq, bindT, bindTs, List.set_cons_zero, List.set_cons_succ, ixV, atI0, atI1, atI2, atI3, cmpV, cmpEq, cmpIs, fOp, fCmp, binV, augV, Bi.wp, Bi.val, truD, wipeR, slotsT, slotsTs, Int.cast_ofNat_Int, seqV, seqF, seqL, Option.map_some, D.ref.injEq, D.int.injEq, D.bl.injEq, MO.lst.injEq, exists_and_left, exists_and_right, updM_same, updM_updM, ixN0, ixN1, ixN2, ifB, ifNB, Bool.not_true, Bool.not_false, Bool.false_eq_true, Bool.true_eq_false, if_true, if_false, ite_true, ite_false, true_and, and_true, or_true, true_or, or_false, false_or, false_and, and_false, String.reduceEq, eq_self, decide_true, decide_false, exIf, ne_eq, not_false_eq_true, Nat.zero_le, dOX, b_law_6, hK]
      exact ⟨_, Sub.refl _, q _⟩
    | some x =>
      simp (maxSteps := 400000) only [vSs, vS, vE, vEs, vT, vTo, vI, startD, endsOf, List.map_cons, List.map_nil, List.length_cons, List.length_nil, List.replicate, List.cons_append, List.nil_append, Nat.reduceAdd, Nat.reduceSub, Nat.reduceLeDiff, List.getElem?_cons_zero, List.getElem?_cons_succ, Option.some.injEq, exists_eq_left', exists_eq_left, exists_eq', exists_eq, bindT, bindTs, List.set_cons_zero, List.set_cons_succ, ixV, atI0, atI1, atI2, atI3, cmpV, cmpEq, cmpIs, fOp, fCmp, binV, augV, Bi.wp, Bi.val, truD, wipeR, slotsT, slotsTs, Int.cast_ofNat_Int, seqV, seqF, seqL, Option.map_some, D.ref.injEq, D.int.injEq, D.bl.injEq, MO.lst.injEq, exists_and_left, exists_and_right, updM_same, updM_updM, ixN0, ixN1, ixN2, ifB, ifNB, Bool.not_true, Bool.not_false, Bool.false_eq_true, Bool.true_eq_false, if_true, if_false, ite_true, ite_false, true_and, and_true, or_true, true_or, or_false, false_or, false_and, and_false, String.reduceEq, eq_self, decide_true, decide_false, exIf, ne_eq, not_false_eq_true, Nat.zero_le, dOX, dX]
      simp (maxSteps := 400000) only [vSs, vS, vE, vEs, vT, vTo, vI, startD, endsOf, List.map_cons, List.map_nil, List.length_cons, List.length_nil, List.replicate, List.cons_append, List.nil_append, Nat.reduceAdd, Nat.reduceSub, Nat.reduceLeDiff, List.getElem?_cons_zero, List.getElem?_cons_succ, Option.some.injEq, exists_eq_left', exists_eq_left, exists_eq', exists_eq, bindT, bindTs, List.set_cons_zero, List.set_cons_succ, ixV, atI0, atI1, atI2, atI3, cmpV, cmpEq, cmpIs, fOp, fCmp, binV, augV, Bi.wp, Bi.val, truD, wipeR, slotsT, slotsTs, Int.cast_ofNat_Int, seqV, seqF, seqL, Option.map_some, D.ref.injEq, D.int.injEq, D.bl.injEq, MO.lst.injEq, exists_and_left, exists_and_right, updM_same, updM_updM, ixN0, ixN1, ixN2, ifB, ifNB, Bool.not_true, Bool.not_false, Bool.false_eq_true, Bool.true_eq_false, if_true, if_false, ite_true, ite_false, true_and, and_true, or_true, true_or, or_false, false_or, false_and, and_false, String.reduceEq, eq_self, decide_true, decide_false, exIf, ne_eq, not_false_eq_true, Nat.zero_le, b_law_8]
      refine ⟨hs, vs, x.1, x.2, rfl, by omega, ?_⟩
      simp (maxSteps := 400000) only [vSs, vS, vE, vEs, vT, vTo, vI, startD, endsOf, List.map_cons, List.map_nil, List.length_cons, List.length_nil, List.replicate, List.cons_append, List.nil_append, Nat.reduceAdd, Nat.reduceSub, Nat.reduceLeDiff, List.getElem?_cons_zero, List.getElem?_cons_succ, Option.some.injEq, exists_eq_left', exists_eq_left, exists_eq', exists_eq, bindT, bindTs, List.set_cons_zero, List.set_cons_succ, ixV, atI0, atI1, atI2, atI3, cmpV, cmpEq, cmpIs, fOp, fCmp, binV, augV, Bi.wp, Bi.val, truD, wipeR, slotsT, slotsTs, Int.cast_ofNat_Int, seqV, seqF, seqL, Option.map_some, D.ref.injEq, D.int.injEq, D.bl.injEq, MO.lst.injEq, exists_and_left, exists_and_right, updM_same, updM_updM, ixN0, ixN1, ixN2, ifB, ifNB, Bool.not_true, Bool.not_false, Bool.false_eq_true, Bool.true_eq_false, if_true, if_false, ite_true, ite_false, true_and, and_true, or_true, true_or, or_false, false_or, false_and, and_false, String.reduceEq, eq_self, decide_true, decide_false, exIf, ne_eq, not_false_eq_true, Nat.zero_le, b_law_7, instI, hK]
      refine ⟨hs, vs, e2, s2, rfl, by omega, ?_⟩
      simp (maxSteps := 400000) only [vSs, vS, vE, vEs, vT, vTo, vI, startD, endsOf, List.map_cons, List.map_nil, List.length_cons, List.length_nil, List.replicate, List.cons_append, List.nil_append, Nat.reduceAdd, Nat.reduceSub, Nat.reduceLeDiff, List.getElem?_cons_zero, List.getElem?_cons_succ, Option.some.injEq, exists_eq_left', exists_eq_left, exists_eq', exists_eq, bindT, bindTs, List.set_cons_zero, List.set_cons_succ, ixV, atI0, atI1, atI2, atI3, cmpV, cmpEq, cmpIs, fOp, fCmp, binV, augV, Bi.wp, Bi.val, truD, wipeR, slotsT, slotsTs, Int.cast_ofNat_Int, seqV, seqF, seqL, Option.map_some, D.ref.injEq, D.int.injEq, D.bl.injEq, MO.lst.injEq, exists_and_left, exists_and_right, updM_same, updM_updM, ixN0, ixN1, ixN2, ifB, ifNB, Bool.not_true, Bool.not_false, Bool.false_eq_true, Bool.true_eq_false, if_true, if_false, ite_true, ite_false, true_and, and_true, or_true, true_or, or_false, false_or, false_and, and_false, String.reduceEq, eq_self, decide_true, decide_false, exIf, ne_eq, not_false_eq_true, Nat.zero_le, boxM_in hb (by omega) (by omega) (by omega) (by omega) i1]
      exact ⟨_, Sub.refl _, q _⟩
  simp (maxSteps := 400000) only [vSs, vS, vE, vEs, vT, vTo, vI, startD, endsOf, List.map_cons, List.map_nil, List.length_cons, List.length_nil, List.replicate, List.cons_append, List.nil_append, Nat.reduceAdd, Nat.reduceSub, Nat.reduceLeDiff, List.getElem?_cons_zero, List.getElem?_cons_succ, Option.some.injEq, exists_eq_left', exists_eq_left, exists_eq', exists_eq, bindT, bindTs, List.set_cons_zero, List.set_cons_succ, ixV, atI0, atI1, atI2, atI3, cmpV, cmpEq, cmpIs, fOp, fCmp, binV, augV, Bi.wp, Bi.val, truD, wipeR, slotsT, slotsTs, Int.cast_ofNat_Int, seqV, seqF, seqL, Option.map_some, D.ref.injEq, D.int.injEq, D.bl.injEq, MO.lst.injEq, exists_and_left, exists_and_right, updM_same, updM_updM, ixN0, ixN1, ixN2, ifB, ifNB, Bool.not_true, Bool.not_false, Bool.false_eq_true, Bool.true_eq_false, if_true, if_false, ite_true, ite_false, true_and, and_true, or_true, true_or, or_false, false_or, false_and, and_false, String.reduceEq, eq_self, decide_true, decide_false, exIf, ne_eq, not_false_eq_true, Nat.zero_le]
  simp (maxSteps := 400000) only [vSs, vS, vE, vEs, vT, vTo, vI, startD, endsOf, List.map_cons, List.map_nil, List.length_cons, List.length_nil, List.replicate, List.cons_append, List.nil_append, Nat.reduceAdd, Nat.reduceSub, Nat.reduceLeDiff, List.getElem?_cons_zero, List.getElem?_cons_succ, Option.some.injEq, exists_eq_left', exists_eq_left, exists_eq', exists_eq, bindT, bindTs, List.set_cons_zero, List.set_cons_succ, ixV, atI0, atI1, atI2, atI3, cmpV, cmpEq, cmpIs, fOp, fCmp, binV, augV, Bi.wp, Bi.val, truD, wipeR, slotsT, slotsTs, Int.cast_ofNat_Int, seqV, seqF, seqL, Option.map_some, D.ref.injEq, D.int.injEq, D.bl.injEq, MO.lst.injEq, exists_and_left, exists_and_right, updM_same, updM_updM, ixN0, ixN1, ixN2, ifB, ifNB, Bool.not_true, Bool.not_false, Bool.false_eq_true, Bool.true_eq_false, if_true, if_false, ite_true, ite_false, true_and, and_true, or_true, true_or, or_false, false_or, false_and, and_false, String.reduceEq, eq_self, decide_true, decide_false, exIf, ne_eq, not_false_eq_true, Nat.zero_le, b_law_17]
  refine iteI (fun _ => ?_) (fun _ => ?_)
  · simp (maxSteps := 400000) only [vSs, vS, vE, vEs, vT, vTo, vI, startD, endsOf, List.map_cons, List.map_nil, List.length_cons, List.length_nil, List.replicate, List.cons_append, List.nil_append, Nat.reduceAdd, Nat.reduceSub, Nat.reduceLeDiff, List.getElem?_cons_zero, List.getElem?_cons_succ, Option.some.injEq, exists_eq_left', exists_eq_left, exists_eq', exists_eq, bindT, bindTs, List.set_cons_zero, List.set_cons_succ, ixV, atI0, atI1, atI2, atI3, cmpV, cmpEq, cmpIs, fOp, fCmp, binV, augV, Bi.wp, Bi.val, truD, wipeR, slotsT, slotsTs, Int.cast_ofNat_Int, seqV, seqF, seqL, Option.map_some, D.ref.injEq, D.int.injEq, D.bl.injEq, MO.lst.injEq, exists_and_left, exists_and_right, updM_same, updM_updM, ixN0, ixN1, ixN2, ifB, ifNB, Bool.not_true, Bool.not_false, Bool.false_eq_true, Bool.true_eq_false, if_true, if_false, ite_true, ite_false, true_and, and_true, or_true, true_or, or_false, false_or, false_and, and_false, String.reduceEq, eq_self, decide_true, decide_false, exIf, ne_eq, not_false_eq_true, Nat.zero_le, b_law_1]
    refine ⟨p, ns, e1, s1, ws, rfl, by omega, by omega, by omega, m6.2, fun e3 s3 M7 l5 l6 m7 => ?_⟩
    exact rest _ _ _ _ l5 l6 m7.2 rfl
  · exact rest _ _ _ _ (by omega) (by omega) m6.2 rfl
end K19
namespace K19
open PySem PySem.Spec PyProof.Rows L2 Vp
theorem main_ok {P : Program} {w : World} {K : PySem.W.Frag} {mg : Str → Option Value} {fa : Addr} {h : Heap} (X : K.In h) (hfa : mg "law" = some (.ref fa))
    (d1 : Def X mg "box_of_state" st_box_of_state ["state"]) (d2 : Def X mg "common_box" st_common_box ["first", "second"]) (d3 : Def X mg "lies_in" st_lies_in ["first", "second"]) (d4 : Def X mg "in_box" st_in_box ["state", "box"])
    (d5 : Def X mg "_law_stream" st_law_stream ["script"]) (d6 : Def X mg "_law_next" st_law_next ["stream", "many"]) (d7 : Def X mg "_law_is_integer" st_law_is_integer ["actual"]) (d8 : Def X mg "_law_is_span" st_law_is_span ["actual"])
    (d9 : Def X mg "_law_is_box" st_law_is_box ["actual", "facts", "numbers"]) (d10 : Def X mg "_law_box_same" st_law_box_same ["actual", "due"]) (d11 : Def X mg "_law_free_span" st_law_free_span ["stream", "low", "high"]) (d12 : Def X mg "_law_free_box" st_law_free_box ["stream", "facts", "spans"])
    (d13 : Def X mg "_law_ranges" st_law_ranges ["stream", "many"]) (d14 : Def X mg "_law_sizes" st_law_sizes ["stream"]) (d15 : Def X mg "_law_near" st_law_near ["stream", "box", "spans"]) (d16 : Def X mg "_law_due" st_law_due ["first", "second"])
    (d17 : Def X mg "_law_state" st_law_state ["stream", "box"]) (d18 : Def X mg "_law_in" st_law_in ["state", "box"]) (d19 : Def X mg "law" st_law ["script"])
    (z_abs : mg "abs" = none) (z_bool : mg "bool" = none) (z_int : mg "int" = none) (z_isinstance : mg "isinstance" = none) (z_len : mg "len" = none) (z_list : mg "list" = none) (z_max : mg "max" = none) (z_min : mg "min" = none) (z_range : mg "range" = none) (z_tuple : mg "tuple" = none) (z_zip : mg "zip" = none) :
    ∃ fd : FuncData, (∀ (s : Shared) (u : Value), BindsTo s fd ⟨[u], []⟩ [("script", u)]) ∧ ∀ base : Heap, K.In base → base.Ns mainGlobals mg → FnOk P w K mg base (L2.CX P w) 10 fa fd ["script"] (spOf K 1 C_law) := by
  refine law_mk (Γ := G_law) (bis := z_law) (b := b_law) (N := N_law) (con := C_law) (k := 9) d19 hfa sc_law (by decide +kernel) (bis_cons z_bool (bis_cons z_isinstance bis_nil)) (fun ds M Q X _ h => w_law ds M Q X h) fun base hI hNs => ?_
  have h_next : Has P w K mg base 1 F_next := has_of d6 sc_law_next rfl (by decide +kernel) fns_nil (bis_cons z_abs (bis_cons z_int (bis_cons z_len bis_nil))) (fun ds M Q X _ h => w_next ds M Q X h)
  have h_stream : Has P w K mg base 1 F_stream := has_of d5 sc_law_stream rfl (by decide +kernel) fns_nil (bis_cons z_list bis_nil) (fun ds M Q X _ h => w_stream ds M Q X h)
  have h_sizes : Has P w K mg base 2 ⟨"_law_sizes", 1, C_sizes⟩ := has_of (bis := []) d14 sc_law_sizes rfl (by decide +kernel) (fns_cons h_next (by decide) fns_nil) bis_nil (fun ds M Q X _ h => w_sizes ds M Q X h)
  have h_ranges : Has P w K mg base 2 ⟨"_law_ranges", 2, C_ranges⟩ := has_of d13 sc_law_ranges rfl (by decide +kernel) (fns_cons h_next (by decide) fns_nil) (bis_cons z_range bis_nil) (fun ds M Q X _ h => w_ranges ds M Q X h)
  have h_span : Has P w K mg base 2 F_span := has_of (bis := []) d11 sc_law_free_span rfl (by decide +kernel) (fns_cons h_next (by decide) fns_nil) bis_nil (fun ds M Q X _ h => w_span ds M Q X h)
  have h_fbox : Has P w K mg base 3 ⟨"_law_free_box", 3, C_fbox⟩ := has_of d12 sc_law_free_box rfl (by decide +kernel) (fns_cons h_next (by decide) (fns_cons h_span (by decide) fns_nil)) (bis_cons z_range (bis_cons z_tuple bis_nil)) (fun ds M Q X _ h => w_fbox ds M Q X h)
  have h_near : Has P w K mg base 2 ⟨"_law_near", 3, C_near⟩ := has_of d15 sc_law_near rfl (by decide +kernel) (fns_cons h_next (by decide) fns_nil) (bis_cons z_max (bis_cons z_min (bis_cons z_tuple (bis_cons z_zip bis_nil)))) (fun ds M Q X _ h => w_near ds M Q X h)
  have h_state : Has P w K mg base 2 ⟨"_law_state", 2, C_state⟩ := has_of d17 sc_law_state rfl (by decide +kernel) (fns_cons h_next (by decide) fns_nil) (bis_cons z_tuple bis_nil) (fun ds M Q X _ h => w_state ds M Q X h)
  have h_due : Has P w K mg base 1 ⟨"_law_due", 2, C_box⟩ := has_of d16 sc_law_due rfl (by decide +kernel) fns_nil (bis_cons z_max (bis_cons z_min (bis_cons z_tuple (bis_cons z_zip bis_nil)))) (fun ds M Q X _ h => w_due ds M Q X h)
  have h_cbox : Has P w K mg base 1 ⟨"common_box", 2, C_box⟩ := has_of d2 sc_common_box rfl (by decide +kernel) fns_nil (bis_cons z_max (bis_cons z_min (bis_cons z_tuple (bis_cons z_zip bis_nil)))) (fun ds M Q X _ h => w_cbox ds M Q X h)
  have h_isint : Has P w K mg base 1 F_isint := has_of d7 sc_law_is_integer rfl (by decide +kernel) fns_nil (bis_cons z_bool (bis_cons z_int (bis_cons z_isinstance bis_nil))) (fun ds M Q X _ h => w_isint ds M Q X h)
  have h_isspan : Has P w K mg base 2 F_isspan := has_of d8 sc_law_is_span rfl (by decide +kernel) (fns_cons h_isint (by decide) fns_nil) (bis_cons z_isinstance (bis_cons z_len (bis_cons z_tuple bis_nil))) (fun ds M Q X _ h => w_isspan ds M Q X h)
  have h_isbox : Has P w K mg base 3 F_isbox := has_of d9 sc_law_is_box rfl (by decide +kernel) (fns_cons h_isspan (by decide) fns_nil) (bis_cons z_bool (bis_cons z_isinstance (bis_cons z_len (bis_cons z_tuple bis_nil)))) (fun ds M Q X _ h => w_isbox ds M Q X h)
  have h_same : Has P w K mg base 4 ⟨"_law_box_same", 2, C_same⟩ := has_of d10 sc_law_box_same rfl (by decide +kernel) (fns_cons h_isbox (by decide) fns_nil) (bis_cons z_len (bis_cons z_zip bis_nil)) (fun ds M Q X _ h => w_same ds M Q X h)
  have h_lies : Has P w K mg base 1 F_lies := has_of d3 sc_lies_in rfl (by decide +kernel) fns_nil (bis_cons z_zip bis_nil) (fun ds M Q X _ h => w_lies ds M Q X h)
  have h_bos : Has P w K mg base 1 F_bos := has_of d1 sc_box_of_state rfl (by decide +kernel) fns_nil (bis_cons z_tuple bis_nil) (fun ds M Q X _ h => w_bos ds M Q X h)
  have h_inbox : Has P w K mg base 2 ⟨"in_box", 2, C_in⟩ := has_of (bis := []) d4 sc_in_box rfl (by decide +kernel) (fns_cons h_lies (by decide) (fns_cons h_bos (by decide) fns_nil)) bis_nil (fun ds M Q X _ h => w_inbox ds M Q X h)
  have h_in : Has P w K mg base 1 ⟨"_law_in", 2, C_in⟩ := has_of d18 sc_law_in rfl (by decide +kernel) fns_nil (bis_cons z_zip bis_nil) (fun ds M Q X _ h => w_in ds M Q X h)
  exact fns_cons h_stream (by decide) (fns_cons h_next (by decide) (fns_cons h_sizes (by decide) (fns_cons h_ranges (by decide) (fns_cons h_fbox (by decide) (fns_cons h_near (by decide) (fns_cons h_state (by decide) (fns_cons h_due (by decide) (fns_cons h_same (by decide) (fns_cons h_cbox (by decide) (fns_cons h_inbox (by decide) (fns_cons h_in (by decide) fns_nil)))))))))))
theorem sp_law (K : PySem.W.Frag) (H : Hp) (a : Addr) (ns : List Int) (hS : SqL K H a (ns.map V.int)) : spOf K 1 C_law [.ref a] H (fun v _ => v = .bl true) fun _ _ _ => False :=
  ⟨H, fun _ => none, [.lst (ns.map .int)], fun d _ => d = .bl true, fun _ _ _ => False, ⟨.refl _, fun _ _ h => nomatch h⟩, .cons (.lst hS (.ints ns)) .nil, rfl, ⟨ns, rfl, fun _ => rfl⟩, fun d M' e F' H' v _ r => by subst e; cases r; rfl, fun _ _ _ h => h.elim⟩
end K19
open PySem PySem.W PyProof.Rows
set_option maxHeartbeats 0 in
theorem PySem.Challenge.cw_sureplan_k19_common_box_holds : PySem.Challenge.rw_sureplan_k19_common_box.Holds := by
  w_on; o_law; k_head; (case hw => w_witness2)
  k_fill
  refine L2.walk_of (l := PySem.Challenge.rw_sureplan_k19_common_box) (n := 63) (k := 10) (x := "script") (CX := fun w => L2.CX PySem.Challenge.rw_sureplan_k19_common_box.prog w) (sp := fun w => Vp.spOf _ 1 K19.C_law) rfl (by decide) rfl ⟨rfl, by decide, by decide⟩ (fun w h Y => PySem.W.kIn_of Y) ?F (fun _ H a ns _ _ hS => K19.sp_law _ H a ns hS) (fun _ _ _ _ _ h => Vp.cx_false h)
  case F =>
    intro w mg fa h KX G hmg
    have d1 : Vp.Def KX mg "box_of_state" K19.st_box_of_state ["state"] := by
      refine' Vp.def_mk KX G ?a ?l ?c ?k (fun _ _ _ _ _ _ us hl => match us, hl with | [_], _ => rfl)
      (case a => k_is); (case l => k_is); (case c => k_is); (case k => k_is)
    have d2 : Vp.Def KX mg "common_box" K19.st_common_box ["first", "second"] := by
      refine' Vp.def_mk KX G ?a ?l ?c ?k (fun _ _ _ _ _ _ us hl => match us, hl with | [_, _], _ => rfl)
      (case a => k_is); (case l => k_is); (case c => k_is); (case k => k_is)
    have d3 : Vp.Def KX mg "lies_in" K19.st_lies_in ["first", "second"] := by
      refine' Vp.def_mk KX G ?a ?l ?c ?k (fun _ _ _ _ _ _ us hl => match us, hl with | [_, _], _ => rfl)
      (case a => k_is); (case l => k_is); (case c => k_is); (case k => k_is)
    have d4 : Vp.Def KX mg "in_box" K19.st_in_box ["state", "box"] := by
      refine' Vp.def_mk KX G ?a ?l ?c ?k (fun _ _ _ _ _ _ us hl => match us, hl with | [_, _], _ => rfl)
      (case a => k_is); (case l => k_is); (case c => k_is); (case k => k_is)
    have d5 : Vp.Def KX mg "_law_stream" K19.st_law_stream ["script"] := by
      refine' Vp.def_mk KX G ?a ?l ?c ?k (fun _ _ _ _ _ _ us hl => match us, hl with | [_], _ => rfl)
      (case a => k_is); (case l => k_is); (case c => k_is); (case k => k_is)
    have d6 : Vp.Def KX mg "_law_next" K19.st_law_next ["stream", "many"] := by
      refine' Vp.def_mk KX G ?a ?l ?c ?k (fun _ _ _ _ _ _ us hl => match us, hl with | [_, _], _ => rfl)
      (case a => k_is); (case l => k_is); (case c => k_is); (case k => k_is)
    have d7 : Vp.Def KX mg "_law_is_integer" K19.st_law_is_integer ["actual"] := by
      refine' Vp.def_mk KX G ?a ?l ?c ?k (fun _ _ _ _ _ _ us hl => match us, hl with | [_], _ => rfl)
      (case a => k_is); (case l => k_is); (case c => k_is); (case k => k_is)
    have d8 : Vp.Def KX mg "_law_is_span" K19.st_law_is_span ["actual"] := by
      refine' Vp.def_mk KX G ?a ?l ?c ?k (fun _ _ _ _ _ _ us hl => match us, hl with | [_], _ => rfl)
      (case a => k_is); (case l => k_is); (case c => k_is); (case k => k_is)
    have d9 : Vp.Def KX mg "_law_is_box" K19.st_law_is_box ["actual", "facts", "numbers"] := by
      refine' Vp.def_mk KX G ?a ?l ?c ?k (fun _ _ _ _ _ _ us hl => match us, hl with | [_, _, _], _ => rfl)
      (case a => k_is); (case l => k_is); (case c => k_is); (case k => k_is)
    have d10 : Vp.Def KX mg "_law_box_same" K19.st_law_box_same ["actual", "due"] := by
      refine' Vp.def_mk KX G ?a ?l ?c ?k (fun _ _ _ _ _ _ us hl => match us, hl with | [_, _], _ => rfl)
      (case a => k_is); (case l => k_is); (case c => k_is); (case k => k_is)
    have d11 : Vp.Def KX mg "_law_free_span" K19.st_law_free_span ["stream", "low", "high"] := by
      refine' Vp.def_mk KX G ?a ?l ?c ?k (fun _ _ _ _ _ _ us hl => match us, hl with | [_, _, _], _ => rfl)
      (case a => k_is); (case l => k_is); (case c => k_is); (case k => k_is)
    have d12 : Vp.Def KX mg "_law_free_box" K19.st_law_free_box ["stream", "facts", "spans"] := by
      refine' Vp.def_mk KX G ?a ?l ?c ?k (fun _ _ _ _ _ _ us hl => match us, hl with | [_, _, _], _ => rfl)
      (case a => k_is); (case l => k_is); (case c => k_is); (case k => k_is)
    have d13 : Vp.Def KX mg "_law_ranges" K19.st_law_ranges ["stream", "many"] := by
      refine' Vp.def_mk KX G ?a ?l ?c ?k (fun _ _ _ _ _ _ us hl => match us, hl with | [_, _], _ => rfl)
      (case a => k_is); (case l => k_is); (case c => k_is); (case k => k_is)
    have d14 : Vp.Def KX mg "_law_sizes" K19.st_law_sizes ["stream"] := by
      refine' Vp.def_mk KX G ?a ?l ?c ?k (fun _ _ _ _ _ _ us hl => match us, hl with | [_], _ => rfl)
      (case a => k_is); (case l => k_is); (case c => k_is); (case k => k_is)
    have d15 : Vp.Def KX mg "_law_near" K19.st_law_near ["stream", "box", "spans"] := by
      refine' Vp.def_mk KX G ?a ?l ?c ?k (fun _ _ _ _ _ _ us hl => match us, hl with | [_, _, _], _ => rfl)
      (case a => k_is); (case l => k_is); (case c => k_is); (case k => k_is)
    have d16 : Vp.Def KX mg "_law_due" K19.st_law_due ["first", "second"] := by
      refine' Vp.def_mk KX G ?a ?l ?c ?k (fun _ _ _ _ _ _ us hl => match us, hl with | [_, _], _ => rfl)
      (case a => k_is); (case l => k_is); (case c => k_is); (case k => k_is)
    have d17 : Vp.Def KX mg "_law_state" K19.st_law_state ["stream", "box"] := by
      refine' Vp.def_mk KX G ?a ?l ?c ?k (fun _ _ _ _ _ _ us hl => match us, hl with | [_, _], _ => rfl)
      (case a => k_is); (case l => k_is); (case c => k_is); (case k => k_is)
    have d18 : Vp.Def KX mg "_law_in" K19.st_law_in ["state", "box"] := by
      refine' Vp.def_mk KX G ?a ?l ?c ?k (fun _ _ _ _ _ _ us hl => match us, hl with | [_, _], _ => rfl)
      (case a => k_is); (case l => k_is); (case c => k_is); (case k => k_is)
    have d19 : Vp.Def KX mg "law" K19.st_law ["script"] := by
      refine' Vp.def_mk KX G ?a ?l ?c ?k (fun _ _ _ _ _ _ us hl => match us, hl with | [_], _ => rfl)
      (case a => k_is); (case l => k_is); (case c => k_is); (case k => k_is)
    have z_abs : mg "abs" = none := by
      refine' PySem.W.mg_none_of KX G ?z
      (case z => k_is)
    have z_bool : mg "bool" = none := by
      refine' PySem.W.mg_none_of KX G ?z
      (case z => k_is)
    have z_int : mg "int" = none := by
      refine' PySem.W.mg_none_of KX G ?z
      (case z => k_is)
    have z_isinstance : mg "isinstance" = none := by
      refine' PySem.W.mg_none_of KX G ?z
      (case z => k_is)
    have z_len : mg "len" = none := by
      refine' PySem.W.mg_none_of KX G ?z
      (case z => k_is)
    have z_list : mg "list" = none := by
      refine' PySem.W.mg_none_of KX G ?z
      (case z => k_is)
    have z_max : mg "max" = none := by
      refine' PySem.W.mg_none_of KX G ?z
      (case z => k_is)
    have z_min : mg "min" = none := by
      refine' PySem.W.mg_none_of KX G ?z
      (case z => k_is)
    have z_range : mg "range" = none := by
      refine' PySem.W.mg_none_of KX G ?z
      (case z => k_is)
    have z_tuple : mg "tuple" = none := by
      refine' PySem.W.mg_none_of KX G ?z
      (case z => k_is)
    have z_zip : mg "zip" = none := by
      refine' PySem.W.mg_none_of KX G ?z
      (case z => k_is)
    exact K19.main_ok KX hmg d1 d2 d3 d4 d5 d6 d7 d8 d9 d10 d11 d12 d13 d14 d15 d16 d17 d18 d19 z_abs z_bool z_int z_isinstance z_len z_list z_max z_min z_range z_tuple z_zip
