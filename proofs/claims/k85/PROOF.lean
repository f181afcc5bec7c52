import PyProof.Rows.All
import Wide.All
import OpenK.AllK
import Wide.FinOn
import HandS.ForMost
import HandS.ForExc
import HandS.Zip
import HandS.IsInst
import HandS.Flow
import HandS.Style
import HandS.TupAny
import HandS.ExcInit
import HandS.ExcField
import HandS.HotCalls
import HandS.ExcInitHot
import PyProof.Rows.SeqMore
import KE.LtSeq
import HandS.More
import HandS.CallSlots
import HandS.AnyAll
import HandS.MakeKwOnly
import HandS.FStr
import KE.GoesEnum
import HandS.Rev
import HandS.Comp
import PyProof.GenQ
import PyProof.GenCompD
import HandS.GenOver
import HandS.DictComp
import KE.KDictList
import HandS.StrMore
import HandS.EndTab
import HandS.HeadWalk
import HandS.HeadHook4
import HandS.ClsMeth
import PyProof.StrLawsLast
import PyProof.StrLawsTight
import PyProof.Rows.StrItems
import PyProof.Rows.RegReprOcc
import PyProof.Rows.StrNews2
import PyProof.Rows.StrJoinMade
import KE.KStateDown
import HandS.Head0
import HandS.Head1
import HandS.Head2
import PySem.Challenge.RW_sureplan_k85_tokens_and_places
set_option Elab.async false
set_option linter.all false
set_option maxRecDepth 100000
set_option maxHeartbeats 4000000
/-! Vp: values without addresses for what never changes, a partial map of what does, and an interpreter by weakest preconditions, sound over the hand layer's readings. -/
namespace Vp
open PySem PySem.Spec PyProof.Rows L2

/-- data: what cannot change any more, by value -/
inductive D where
  | non | bl (b : Bool) | int (i : Int) | str (x : Str) | tup (ds : List D) | lst (ds : List D) | ref (a : Addr) | ty (n : String) | dic (ks : List Key) (ds : List D)
/-- a thing that may change -/
inductive MO where
  | lst (ds : List D) | dK (kvs : List (Key × D)) | ins (C : Addr) (fs : List (Str × D)) | tbl | dT (kvs : List (List Key × D)) | exo (e C : Addr) (d : Option Addr) | exd (dx : Addr) (fs : List (Str × D)) | xd (fs : List (Str × D))
abbrev Mo := Addr → Option MO
def updM (M : Mo) (a : Addr) (o : MO) : Mo := fun b => if b = a then some o else M b
def delM (M : Mo) (a : Addr) : Mo := fun b => if b = a then none else M b
theorem updM_same {M : Mo} {a : Addr} {o : MO} : updM M a o a = some o := if_pos rfl
theorem updM_ne {M : Mo} {a b : Addr} {o : MO} (h : b ≠ a) : updM M a o b = M b := if_neg h
theorem delM_same {M : Mo} {a : Addr} : delM M a a = none := if_pos rfl
theorem delM_ne {M : Mo} {a b : Addr} (h : b ≠ a) : delM M a b = M b := if_neg h
theorem updM_updM {M : Mo} {a : Addr} {o u : MO} : updM (updM M a o) a u = updM M a u := by
  funext b; unfold updM; split <;> rfl
def Sub (M M' : Mo) : Prop := ∀ a o, M a = some o → M' a = some o
theorem Sub.refl (M : Mo) : Sub M M := fun _ _ h => h
theorem Sub.trans {M M1 M2 : Mo} (a : Sub M M1) (b : Sub M1 M2) : Sub M M2 := fun x o h => b x o (a x o h)
theorem Sub.new {M M' : Mo} {a : Addr} {o : MO} (s : Sub M M') (h : M a = none) : Sub M (updM M' a o) := fun b u e => by
  rw [updM_ne (fun z => by rw [z, h] at e; cases e)]
  exact s b u e
theorem Sub.del {M M' : Mo} {a : Addr} (s : Sub M M') (h : M a = none) : Sub M (delM M' a) := fun b u e => by
  rw [delM_ne (fun z => by rw [z, h] at e; cases e)]
  exact s b u e
theorem Sub.upd {M M' : Mo} {a : Addr} {o : MO} (s : Sub M M') : Sub (updM M a o) (updM M' a o) := fun b u e => by
  by_cases h : b = a
  · subst h; rw [updM_same] at e ⊢; exact e
  · rw [updM_ne h] at e ⊢; exact s b u e

def Ex (F F' : Hp) : Prop := ∀ a o, F a = some o → F' a = some o
theorem Ex.refl (F : Hp) : Ex F F := fun _ _ h => h
theorem Ex.trans {F F1 F2 : Hp} (a : Ex F F1) (b : Ex F1 F2) : Ex F F2 := fun x o h => b x o (a x o h)
theorem Ex.new {F F' : Hp} {p : Addr} {o : HO} (e : Ex F F') (h : F p = none) : Ex F (upd F' p o) := fun a u ha => by
  rw [upd_ne (ne_of_none ha h)]
  exact e a u ha
theorem Ex.both {F F' : Hp} {p : Addr} {o : HO} (e : Ex F F') : Ex (upd F p o) (upd F' p o) := fun b u h => by
  by_cases hb : b = p
  · subst hb; rw [upd_same] at h ⊢; exact h
  · rw [upd_ne hb] at h ⊢; exact e b u h
theorem Ex.none {F F' : Hp} {p : Addr} (e : Ex F F') (h : F' p = Option.none) : F p = Option.none := by
  cases q : F p with
  | none => rfl
  | some o => rw [e p o q] at h; cases h
theorem ex_rd {H H' : Hp} {a : Addr} {u : HO} (e : Ex H H') (h : Rd H a u) : Rd H' a u := by
  rcases h with h | ⟨o, h⟩
  · exact .inl (e a _ h)
  · exact .inr ⟨o, e a _ h⟩
theorem ex_l {K : PySem.W.Frag} {H H' : Hp} {a : Addr} {xs : List V} (e : Ex H H') (h : SqL K H a xs) : SqL K H' a xs := by
  rcases h with h | h
  · exact .inl (ex_rd e h)
  · exact .inr h
theorem ex_t {K : PySem.W.Frag} {H H' : Hp} {a : Addr} {xs : List V} (e : Ex H H') (h : SqT K H a xs) : SqT K H' a xs := by
  rcases h with h | h
  · exact .inl (ex_rd e h)
  · exact .inr h

mutual
/-- the value v holds the data d, by what is known not to change -/
inductive Rep (K : PySem.W.Frag) (F : Hp) : V → D → Prop
  | non : Rep K F .non .non
  | bl (b : Bool) : Rep K F (.bl b) (.bl b)
  | int (i : Int) : Rep K F (.int i) (.int i)
  | str (x : Str) : Rep K F (.str x) (.str x)
  | ref (a : Addr) : Rep K F (.ref a) (.ref a)
  | ty (n : String) : Rep K F (.ty n) (.ty n)
  | tup {a : Addr} {xs : List V} {ds : List D} (h : SqT K F a xs) (r : RepL K F xs ds) : Rep K F (.ref a) (.tup ds)
  | lst {a : Addr} {xs : List V} {ds : List D} (h : SqL K F a xs) (r : RepL K F xs ds) : Rep K F (.ref a) (.lst ds)
  | dic {a : Addr} {o : Obj} {ws : List (Key × V)} {ks : List Key} {ds : List D} (h : F a = some (.frz o (.dK ws))) (hk : ws.map (·.1) = ks) (r : RepL K F (ws.map (·.2)) ds) : Rep K F (.ref a) (.dic ks ds)
inductive RepL (K : PySem.W.Frag) (F : Hp) : List V → List D → Prop
  | nil : RepL K F [] []
  | cons {v : V} {d : D} {vs : List V} {ds : List D} (h : Rep K F v d) (t : RepL K F vs ds) : RepL K F (v :: vs) (d :: ds)
end
section
variable {K : PySem.W.Frag} {F F' : Hp}
mutual
theorem Rep.mono (e : Ex F F') : ∀ {v : V} {d : D}, Rep K F v d → Rep K F' v d
  | _, _, .non => .non
  | _, _, .bl b => .bl b
  | _, _, .int i => .int i
  | _, _, .str x => .str x
  | _, _, .ref a => .ref a
  | _, _, .ty n => .ty n
  | _, _, .tup h r => .tup (ex_t e h) (RepL.mono e r)
  | _, _, .lst h r => .lst (ex_l e h) (RepL.mono e r)
  | _, _, .dic h hk r => .dic (e _ _ h) hk (RepL.mono e r)
theorem RepL.mono (e : Ex F F') : ∀ {vs : List V} {ds : List D}, RepL K F vs ds → RepL K F' vs ds
  | _, _, .nil => .nil
  | _, _, .cons h t => .cons (Rep.mono e h) (RepL.mono e t)
end
theorem RepL.length : ∀ {vs : List V} {ds : List D}, RepL K F vs ds → vs.length = ds.length
  | _, _, .nil => rfl
  | _, _, .cons _ t => congrArg (· + 1) (RepL.length t)
theorem RepL.get : ∀ {vs : List V} {ds : List D} {i : Nat} {d : D}, RepL K F vs ds → ds[i]? = some d → ∃ v, vs[i]? = some v ∧ Rep K F v d
  | _, _, _, _, .nil, e => by simp at e
  | _, _, 0, _, .cons h _, e => by simp at e; subst e; exact ⟨_, rfl, h⟩
  | _, _, i + 1, d, .cons _ t, e => by
    obtain ⟨v, h1, h2⟩ := RepL.get (i := i) (d := d) t (by simpa using e)
    exact ⟨v, by simpa using h1, h2⟩
theorem RepL.getV : ∀ {vs : List V} {ds : List D} {i : Nat} {v : V}, RepL K F vs ds → vs[i]? = some v → ∃ d, ds[i]? = some d ∧ Rep K F v d
  | _, _, _, _, .nil, e => by simp at e
  | _, _, 0, _, .cons h _, e => by simp at e; subst e; exact ⟨_, rfl, h⟩
  | _, _, i + 1, v, .cons _ t, e => by
    obtain ⟨d, h1, h2⟩ := RepL.getV (i := i) (v := v) t (by simpa using e)
    exact ⟨d, by simpa using h1, h2⟩
theorem RepL.append : ∀ {vs ws : List V} {ds es : List D}, RepL K F vs ds → RepL K F ws es → RepL K F (vs ++ ws) (ds ++ es)
  | _, _, _, _, .nil, s => s
  | _, _, _, _, .cons h t, s => .cons h (RepL.append t s)
theorem RepL.take : ∀ {vs : List V} {ds : List D} (n : Nat), RepL K F vs ds → RepL K F (vs.take n) (ds.take n)
  | _, _, 0, _ => .nil
  | _, _, _ + 1, .nil => .nil
  | _, _, n + 1, .cons h t => .cons h (RepL.take n t)
theorem RepL.drop : ∀ {vs : List V} {ds : List D} (n : Nat), RepL K F vs ds → RepL K F (vs.drop n) (ds.drop n)
  | _, _, 0, r => r
  | _, _, _ + 1, .nil => .nil
  | _, _, n + 1, .cons _ t => RepL.drop n t
theorem RepL.set : ∀ {vs : List V} {ds : List D} {v : V} {d : D} (i : Nat), RepL K F vs ds → Rep K F v d → RepL K F (vs.set i v) (ds.set i d)
  | _, _, _, _, _, .nil, _ => .nil
  | _, _, _, _, 0, .cons _ t, r => .cons r t
  | _, _, _, _, i + 1, .cons h t, r => .cons h (RepL.set i t r)
theorem RepL.reverse : ∀ {vs : List V} {ds : List D}, RepL K F vs ds → RepL K F vs.reverse ds.reverse
  | _, _, .nil => .nil
  | _, _, .cons h t => by
    rw [List.reverse_cons, List.reverse_cons]
    exact (RepL.reverse t).append (.cons h .nil)
theorem RepL.ints : ∀ (ns : List Int), RepL K F (ns.map V.int) (ns.map D.int)
  | [] => .nil
  | n :: r => .cons (.int n) (RepL.ints r)
end

/-- an object of the heap as a thing that may change -/
def RepO (K : PySem.W.Frag) (F : Hp) (ho : HO) : MO → Prop
  | .lst ds => ∃ xs, ho = .lst xs ∧ RepL K F xs ds
  | .dK kvs => ∃ ws, ho = .dK ws ∧ ws.map (·.1) = kvs.map (·.1) ∧ RepL K F (ws.map (·.2)) (kvs.map (·.2))
  | .ins C fs => ∃ dx ws, ho = .ins C dx ws ∧ ws.map (·.1) = fs.map (·.1) ∧ RepL K F (ws.map (·.2)) (fs.map (·.2))
  | .tbl => ∃ ps : Array Value, ho = .tbl ps ∧ TriplesOk ps.toList
  | .dT kvs => ∃ ws, ho = .dT ws ∧ ws.map (·.1) = kvs.map (·.1) ∧ RepL K F (ws.map (·.2)) (kvs.map (·.2))
  | .exo e C d => ho = L2.exo e C d
  | .exd dx fs => ∃ ws, ho = L2.exd dx ws ∧ ws.map (·.1) = fs.map (·.1) ∧ RepL K F (ws.map (·.2)) (fs.map (·.2))
  | .xd fs => ∃ ws, ho = .xd ws ∧ ws.map (·.1) = fs.map (·.1) ∧ RepL K F (ws.map (·.2)) (fs.map (·.2))
theorem RepO.mono {K : PySem.W.Frag} {F F' : Hp} (e : Ex F F') {ho : HO} : ∀ {mo : MO}, RepO K F ho mo → RepO K F' ho mo
  | .lst _, ⟨xs, h, r⟩ => ⟨xs, h, r.mono e⟩
  | .dK _, ⟨ws, h, k, r⟩ => ⟨ws, h, k, r.mono e⟩
  | .ins _ _, ⟨dx, ws, h, k, r⟩ => ⟨dx, ws, h, k, r.mono e⟩
  | .tbl, h => h
  | .dT _, ⟨ws, h, k, r⟩ => ⟨ws, h, k, r.mono e⟩
  | .exo _ _ _, h => h
  | .exd _ _, ⟨ws, h, k, r⟩ => ⟨ws, h, k, r.mono e⟩
  | .xd _, ⟨ws, h, k, r⟩ => ⟨ws, h, k, r.mono e⟩
/-- the map of what may change is held by the heap -/
def MRep (K : PySem.W.Frag) (F H : Hp) (M : Mo) : Prop := ∀ a mo, M a = some mo → F a = none ∧ ∃ ho, H a = some ho ∧ RepO K F ho mo
structure Sat (K : PySem.W.Frag) (F H : Hp) (M : Mo) : Prop where
  ex : Ex F H
  m : MRep K F H M
/-- from one state to a later one -/
structure Step (K : PySem.W.Frag) (F : Hp) (M : Mo) (H : Hp) (F' : Hp) (M' : Mo) (H' : Hp) : Prop where
  ff : Ex F F'
  fh : Ex F' H'
  m : MRep K F' H' M'
  keep : ∀ a o, H a = some o → M a = none → H' a = some o
  newF : ∀ a, H a ≠ none → M a = none → F a = none → F' a = none
  newM : ∀ a, H a ≠ none → M a = none → M' a = none
  th : ∀ a, H a ≠ none → H' a ≠ none
theorem th_upd {H : Hp} {p : Addr} {o : HO} : ∀ a, H a ≠ none → upd H p o a ≠ none := fun a h => by
  by_cases e : a = p
  · subst e; rw [upd_same]; simp
  · rw [upd_ne e]; exact h
section
variable {K : PySem.W.Frag} {F F1 F2 H H1 H2 : Hp} {M M1 M2 M' : Mo}
theorem Step.sat (s : Step K F M H F1 M1 H1) : Sat K F1 H1 M1 := ⟨s.fh, s.m⟩
theorem Step.refl (s : Sat K F H M) : Step K F M H F M H := ⟨Ex.refl _, s.ex, s.m, fun _ _ h _ => h, fun _ _ _ h => h, fun _ _ h => h, fun _ h => h⟩
theorem Step.trans (a : Step K F M H F1 M1 H1) (b : Step K F1 M1 H1 F2 M2 H2) : Step K F M H F2 M2 H2 where
  ff := a.ff.trans b.ff
  fh := b.fh
  m := b.m
  keep := fun x o h n => b.keep x o (a.keep x o h n) (a.newM x (by rw [h]; simp) n)
  newF := fun x h n f => by
    obtain ⟨o, ho⟩ := Option.ne_none_iff_exists'.mp h
    exact b.newF x (by rw [a.keep x o ho n]; simp) (a.newM x h n) (a.newF x h n f)
  newM := fun x h n => by
    obtain ⟨o, ho⟩ := Option.ne_none_iff_exists'.mp h
    exact b.newM x (by rw [a.keep x o ho n]; simp) (a.newM x h n)
  th := fun x h => b.th x (a.th x h)
/-- what is known of what may change is forgotten -/
theorem Step.forget (a : Step K F M H F1 M1 H1) (s : Sub M' M1) : Step K F M H F1 M' H1 where
  ff := a.ff
  fh := a.fh
  m := fun x o h => a.m x o (s x o h)
  keep := a.keep
  newF := a.newF
  newM := fun x h n => by
    cases q : M' x with
    | none => rfl
    | some o =>
      have z := s x o q
      rw [a.newM x h n] at z
      cases z
  th := a.th
theorem Sat.none (s : Sat K F H M) {p : Addr} (h : H p = Option.none) : F p = Option.none ∧ M p = Option.none := by
  refine ⟨s.ex.none h, ?_⟩
  cases q : M p with
  | none => rfl
  | some mo =>
    obtain ⟨_, ho, e, _⟩ := s.m p mo q
    rw [e] at h; cases h
/-- a new object that will not change -/
theorem Sat.newF (s : Sat K F H M) {p : Addr} (h : H p = Option.none) (o : HO) : Step K F M H (upd F p o) M (upd H p o) := by
  obtain ⟨f, n⟩ := s.none h
  refine ⟨(Ex.refl F).new f, s.ex.both, fun a mo e => ?_, fun a u e _ => ?_, fun a e _ g => ?_, fun a e g => g, th_upd⟩
  · have hne : a ≠ p := fun z => by rw [z, n] at e; cases e
    obtain ⟨f1, ho, h1, r⟩ := s.m a mo e
    exact ⟨by rw [upd_ne hne]; exact f1, ho, by rw [upd_ne hne]; exact h1, r.mono ((Ex.refl F).new f)⟩
  · rw [upd_ne (ne_of_none e h)]; exact e
  · have hne : a ≠ p := fun z => by rw [z] at e; exact e h
    rw [upd_ne hne]; exact g
/-- a new object that is not told -/
theorem Sat.newH (s : Sat K F H M) {p : Addr} (h : H p = Option.none) (o : HO) : Step K F M H F M (upd H p o) := by
  refine ⟨Ex.refl F, fun a u e => ?_, fun a mo e => ?_, fun a u e _ => ?_, fun a e _ g => g, fun a e g => g, th_upd⟩
  · rw [upd_ne (ne_of_none (s.ex a u e) h)]; exact s.ex a u e
  · obtain ⟨f1, ho, h1, r⟩ := s.m a mo e
    exact ⟨f1, ho, by rw [upd_ne (ne_of_none h1 h)]; exact h1, r⟩
  · rw [upd_ne (ne_of_none e h)]; exact e
/-- a new object that may change -/
theorem Sat.newM (s : Sat K F H M) {p : Addr} (h : H p = Option.none) {o : HO} {mo : MO} (r : RepO K F o mo) : Step K F M H F (updM M p mo) (upd H p o) := by
  obtain ⟨f, n⟩ := s.none h
  refine ⟨Ex.refl F, (s.newH h o).fh, fun a u e => ?_, (s.newH h o).keep, fun a e _ g => g, fun a e g => ?_, th_upd⟩
  · by_cases hne : a = p
    · subst hne
      rw [updM_same] at e; cases e
      exact ⟨f, o, upd_same, r⟩
    · rw [updM_ne hne] at e
      exact (s.newH h o).m a u e
  · have hne : a ≠ p := fun z => by rw [z] at e; exact e h
    rw [updM_ne hne]; exact g
/-- a thing that may change is changed -/
theorem Sat.write (s : Sat K F H M) {p : Addr} {mo0 mo : MO} (h : M p = some mo0) {o : HO} (r : RepO K F o mo) : Step K F M H F (updM M p mo) (upd H p o) := by
  obtain ⟨f, ho, hp, r0⟩ := s.m p mo0 h
  refine ⟨Ex.refl F, fun a u e => ?_, fun a u e => ?_, fun a u e n => ?_, fun a e _ g => g, fun a e g => ?_, th_upd⟩
  · rw [upd_ne (ne_of_none e f)]; exact s.ex a u e
  · by_cases hne : a = p
    · subst hne
      rw [updM_same] at e; cases e
      exact ⟨f, o, upd_same, r⟩
    · rw [updM_ne hne] at e
      obtain ⟨f1, ho1, h1, r1⟩ := s.m a u e
      exact ⟨f1, ho1, by rw [upd_ne hne]; exact h1, r1⟩
  · have hne : a ≠ p := fun z => by rw [z, h] at n; cases n
    rw [upd_ne hne]; exact e
  · have hne : a ≠ p := fun z => by rw [z, h] at g; cases g
    rw [updM_ne hne]; exact g
/-- a thing that may change will not change any more -/
theorem Sat.freeze (s : Sat K F H M) {p : Addr} {mo : MO} (h : M p = some mo) {o : HO} (hp : H p = some o) : Step K F M H (upd F p o) (delM M p) H := by
  obtain ⟨f, ho, hp', r0⟩ := s.m p mo h
  refine ⟨(Ex.refl F).new f, fun a u e => ?_, fun a u e => ?_, fun a u e n => e, fun a e n g => ?_, fun a e g => ?_, fun _ h => h⟩
  · by_cases hne : a = p
    · subst hne; rw [upd_same] at e; cases e; exact hp
    · rw [upd_ne hne] at e; exact s.ex a u e
  · have hne : a ≠ p := fun z => by rw [z, delM_same] at e; cases e
    rw [delM_ne hne] at e
    obtain ⟨f1, ho1, h1, r1⟩ := s.m a u e
    exact ⟨by rw [upd_ne hne]; exact f1, ho1, h1, r1.mono ((Ex.refl F).new f)⟩
  · have hne : a ≠ p := fun z => by rw [z, h] at n; cases n
    rw [upd_ne hne]; exact g
  · by_cases hne : a = p
    · subst hne; exact delM_same
    · rw [delM_ne hne]; exact g
end

abbrev Rho := List (Option D)
structure RepE (K : PySem.W.Frag) (F : Hp) (σ : L2.St) (ρ : Rho) : Prop where
  len : σ.length = ρ.length
  get : ∀ (i : Nat) (d : D), ρ[i]? = some (some d) → ∃ v, σ[i]? = some (some v) ∧ Rep K F v d
section
variable {K : PySem.W.Frag} {F F' : Hp} {σ : L2.St} {ρ : Rho}
theorem RepE.mono (e : Ex F F') (r : RepE K F σ ρ) : RepE K F' σ ρ := ⟨r.len, fun i d h => let ⟨v, a, b⟩ := r.get i d h; ⟨v, a, b.mono e⟩⟩
theorem RepE.set (r : RepE K F σ ρ) {i : Nat} {v : V} {d : D} (h : Rep K F v d) : RepE K F (σ.set i (some v)) (ρ.set i (some d)) := by
  refine ⟨by rw [List.length_set, List.length_set]; exact r.len, fun j d' e => ?_⟩
  by_cases hj : i = j
  · subst hj
    have hi : i < ρ.length := by
      have := List.getElem?_eq_some_iff.mp e
      obtain ⟨q, _⟩ := this
      rw [List.length_set] at q
      exact q
    rw [List.getElem?_set_self hi] at e
    cases e
    exact ⟨v, List.getElem?_set_self (by rw [r.len]; exact hi), h⟩
  · rw [List.getElem?_set_ne hj] at e
    rw [List.getElem?_set_ne hj]
    exact r.get j d' e
theorem RepE.forget (r : RepE K F σ ρ) {i : Nat} {x : Option V} : RepE K F (σ.set i x) (ρ.set i none) := by
  refine ⟨by rw [List.length_set, List.length_set]; exact r.len, fun j d' e => ?_⟩
  by_cases hj : i = j
  · subst hj
    have hi : i < ρ.length := by
      obtain ⟨q, _⟩ := List.getElem?_eq_some_iff.mp e
      rw [List.length_set] at q
      exact q
    rw [List.getElem?_set_self hi] at e
    cases e
  · rw [List.getElem?_set_ne hj] at e
    rw [List.getElem?_set_ne hj]
    exact r.get j d' e
end
def wipeR (ρ : Rho) : List Nat → Rho
  | [] => ρ
  | v :: vs => (wipeR ρ vs).set v none
theorem RepE.wipe {K : PySem.W.Frag} {F : Hp} {σ : L2.St} {ρ : Rho} (r : RepE K F σ ρ) : ∀ vs : List Nat, RepE K F (wipe σ vs) (wipeR ρ vs)
  | [] => r
  | v :: vs => (RepE.wipe r vs).forget

/-! ### what is wanted behind -/
abbrev QE := D → Mo → Prop
abbrev XQ := Value → List (Str × D) → Mo → Prop
abbrev VE := Rho → Mo → QE → XQ → Prop
/-- an exception's dict: new since H0, untold by F -/
def RepX (K : PySem.W.Frag) (F H0 H : Hp) (d : Option Addr) (fs : List (Str × D)) : Prop := ∃ dd ws, d = some dd ∧ H0 dd = none ∧ F dd = none ∧ H dd = some (.xd ws) ∧ ws.map (·.1) = fs.map (·.1) ∧ RepL K F (ws.map (·.2)) (fs.map (·.2))
theorem RepX.back {K : PySem.W.Frag} {F F0 F1 H0 H1 H : Hp} {M0 M1 : Mo} {d : Option Addr} {fs : List (Str × D)} (s : Step K F0 M0 H0 F1 M1 H1) (r : RepX K F H1 H d fs) : RepX K F H0 H d fs := by
  obtain ⟨dd, ws, h1, h2, h3⟩ := r
  refine ⟨dd, ws, h1, ?_, h3⟩
  cases e : H0 dd with
  | none => rfl
  | some o => exact absurd h2 (s.th dd (by rw [e]; simp))
def PV (K : PySem.W.Frag) (F : Hp) (M : Mo) (H : Hp) (Q : VK) (Q' : QE) : Prop := ∀ d M', Q' d M' → ∀ F' H' v, Step K F M H F' M' H' → Rep K F' v d → Q v H'
def PB (K : PySem.W.Frag) (F : Hp) (M : Mo) (H : Hp) (Q : Bool → Hp → Prop) (Q' : Bool → Mo → Prop) : Prop := ∀ b M', Q' b M' → ∀ F' H', Step K F M H F' M' H' → Q b H'
def PL (K : PySem.W.Frag) (F : Hp) (M : Mo) (H : Hp) (Q : List V → Hp → Prop) (Q' : List D → Mo → Prop) : Prop := ∀ ds M', Q' ds M' → ∀ F' H' vs, Step K F M H F' M' H' → RepL K F' vs ds → Q vs H'
def PX (K : PySem.W.Frag) (F : Hp) (M : Mo) (H : Hp) (W : WX) (σ : L2.St) (X' : XQ) : Prop := ∀ c fs M', X' c fs M' → ∀ F' H' d, Step K F M H F' M' H' → RepX K F' H H' d fs → W c d σ H'
section
variable {K : PySem.W.Frag} {F F1 H H1 : Hp} {M M1 : Mo} {W : WX} {σ : L2.St}
theorem PV.step {Q : VK} {Q' : QE} (s : Step K F M H F1 M1 H1) (p : PV K F M H Q Q') : PV K F1 M1 H1 Q Q' := fun d M' h F' H' v t r => p d M' h F' H' v (s.trans t) r
theorem PB.step {Q : Bool → Hp → Prop} {Q' : Bool → Mo → Prop} (s : Step K F M H F1 M1 H1) (p : PB K F M H Q Q') : PB K F1 M1 H1 Q Q' := fun d M' h F' H' t => p d M' h F' H' (s.trans t)
theorem PL.step {Q : List V → Hp → Prop} {Q' : List D → Mo → Prop} (s : Step K F M H F1 M1 H1) (p : PL K F M H Q Q') : PL K F1 M1 H1 Q Q' := fun d M' h F' H' v t r => p d M' h F' H' v (s.trans t) r
theorem PX.step {X' : XQ} (s : Step K F M H F1 M1 H1) (p : PX K F M H W σ X') : PX K F1 M1 H1 W σ X' := fun c fs M' h F' H' d t r => p c fs M' h F' H' d (s.trans t) (r.back s)
end
/-- readings by data -/
def tE (K : PySem.W.Frag) (W : WX) (w : VE) : TE := fun σ H Q => ∃ F M ρ Q' X', Sat K F H M ∧ RepE K F σ ρ ∧ w ρ M Q' X' ∧ PV K F M H Q Q' ∧ PX K F M H W σ X'
def tT (K : PySem.W.Frag) (W : WX) (w : Rho → Mo → (Bool → Mo → Prop) → XQ → Prop) : TT := fun σ H Q => ∃ F M ρ Q' X', Sat K F H M ∧ RepE K F σ ρ ∧ w ρ M Q' X' ∧ PB K F M H Q Q' ∧ PX K F M H W σ X'
def tL (K : PySem.W.Frag) (W : WX) (w : Rho → Mo → (List D → Mo → Prop) → XQ → Prop) : TA := fun σ H Q => ∃ F M ρ Q' X', Sat K F H M ∧ RepE K F σ ρ ∧ w ρ M Q' X' ∧ PL K F M H Q Q' ∧ PX K F M H W σ X'
theorem PE.weak {X : Cx} {e : Expr} {t t' : TE} (h : PE X e t) (i : ∀ σ H Q, t' σ H Q → t σ H Q) : PE X e t' := ⟨fun pins s σ H Q I q => h.run pins s σ H Q I (i σ H Q q)⟩
theorem PT.weak {X : Cx} {e : Expr} {t t' : TT} (h : PT X e t) (i : ∀ σ H Q, t' σ H Q → t σ H Q) : PT X e t' := ⟨fun pins s σ H Q I q => h.run pins s σ H Q I (i σ H Q q)⟩
theorem PW.weak {X : Cx} {e : Expr} {t t' : TT} (h : PW X e t) (i : ∀ σ H Q, t' σ H Q → t σ H Q) : PW X e t' := ⟨fun w pins s σ H Q I q => h.run w pins s σ H Q I (i σ H Q q)⟩
theorem PA.weak {X : Cx} {es : List Expr} {t t' : TA} (h : PA X es t) (i : ∀ σ H Q, t' σ H Q → t σ H Q) : PA X es t' := ⟨fun p pins s σ H Q I q => h.run p pins s σ H Q I (i σ H Q q)⟩
theorem PS.weak {X : Cx} {e : Stmt} {t t' : TS} (h : PS X e t) (i : ∀ D σ H, t' D σ H → t D σ H) : PS X e t' := ⟨fun pins s σ H D I q => h.run pins s σ H D I (i D σ H q)⟩
theorem PSs.weak {X : Cx} {e : List Stmt} {t t' : TS} (h : PSs X e t) (i : ∀ D σ H, t' D σ H → t D σ H) : PSs X e t' := ⟨fun pins s σ H D I q => h.run pins s σ H D I (i D σ H q)⟩
end Vp
namespace Vp
open PySem PySem.Spec PyProof.Rows L2

/-! ### lists put together, wherever they stand -/
def rCatL (K : PySem.W.Frag) : R2 := fun x y H Q => ∃ l b xs zs, x = .ref l ∧ y = .ref b ∧ SqL K H l xs ∧ SqL K H b zs ∧ xs.length + zs.length ≤ sizeLine ∧ ∀ p, H p = none → Q (.ref p) (upd H p (.lst (xs ++ zs)))
theorem op_catL {X : Cx} : OpR X (binaryOp .Add) (rCatL X.K) := by
  intro pins s σ H x y v u Q I rx ry h
  obtain ⟨l, b, xs, zs, rfl, rfl, hH, hB, hz, q⟩ := h
  cases rx
  cases ry
  obtain ⟨its, r, hl, _⟩ := I.list hH
  obtain ⟨its2, r2, hl2, _⟩ := I.list hB
  obtain ⟨⟨cls, dd, data, sl⟩, ho, hc, n, hd⟩ := id hl.isList
  obtain ⟨⟨cls2, dd2, data2, sl2⟩, ho2, hc2, n2, hd2⟩ := id hl2.isList
  simp only at hc hd hc2 hd2
  subst hc hd hc2 hd2
  have hsz : its.toArray.size + its2.toArray.size ≤ sizeLine := by
    have := r.length; have := r2.length
    rw [List.size_toArray, List.size_toArray]; omega
  have e : its.toArray ++ its2.toArray = (its ++ its2).toArray := by simp
  refine concat_meets ⟨_, ho, rfl⟩ ⟨_, ho2, rfl⟩ noFill_list_add seq_list_add PySem.F.slot_list_add PySem.F.entry_list_add (PySem.F.args_list_add_2 _ _) (list_addW l b its.toArray its2.toArray n n2 dd dd2 sl sl2 hsz) ⟨ho, ho2, ?_⟩
  rw [e]
  exact ⟨.ref _, _, I.lnew (t' := s.toks) (r.append r2) (by rw [List.length_append]; omega), rfl, q _ I.fresh⟩
theorem list_extW (l : Addr) (items : Array Value) (n : Nat) (b : Addr) (items2 : Array Value) (n2 : Nat) (dd : Option Addr) (sl : Array (Option Value)) (hc0 : ¬(!items.isEmpty && Builtin.List.listTooLong (items.size + items2.size)) = true) (hc1 : items.size ≤ sizeLine) (hs2 : items.size + items2.size ≤ sizeLine + 1) :
    Meets (Builtin.«list.extend» ⟨[.ref l, .ref b], []⟩) (fun _ R s => s.heap.get? l = some { cls := .type "list", dict := none, data := .seq items n, slots := #[] } ∧ s.heap.get? b = some { cls := .type "list", dict := dd, data := .seq items2 n2, slots := sl } ∧ R (.ok (.ret Value.none)) { s with heap := s.heap.update l (Obj.mapSeq fun x => x ++ items2), toks := s.toks }) :=
  .of_wp fun prog w A R s h => by
    obtain ⟨hp, g, d, tk, os⟩ := s; obtain ⟨hl, hb, h⟩ := h; have f1 := AutoSeq1.idx_int; have f2 := AutoSeq1.sub_tuple_tuple; have f3 := AutoSeq1.sub_list_list; have f4 := AutoSeq1.sub_tuple_list; have f5 := AutoSeq1.sub_list_tuple;
    have hz' : (items ++ items2).size ≤ sizeLine + 1 := by rw [Array.size_append]; exact hs2
    wp_walk using (wpAny_updateSeq hl rfl (hz := hc1) (_hz' := hz')), wpAny_loadPart' hl, wpAny_loadPart' hb; exact ⟨_, rfl, h⟩
def rExtL (K : PySem.W.Frag) : V → List V → Hp → VK → Prop := fun x vs H Q => ∃ l b xs zs, x = .ref l ∧ vs = [.ref b] ∧ H l = some (.lst xs) ∧ SqL K H b zs ∧ xs.length + zs.length ≤ sizeLine ∧ Q .non (upd H l (.lst (xs ++ zs)))
theorem mt_extL {X : Cx} : MtM X "list.extend" (rExtL X.K) := by
  intro pins s σ H x vs v us Q I rx rv h
  obtain ⟨l, b, xs, zs, rfl, rfl, hH, hB, hz, q⟩ := h
  cases rx
  obtain ⟨u, rfl, ru⟩ := rv.one
  cases ru
  obtain ⟨z, its, n, r, hl, e⟩ := I.lstM hH
  obtain ⟨its2, r2, hl2, _⟩ := I.list hB
  obtain ⟨⟨cls2, dd2, data2, sl2⟩, ho2, hc2, n2, hd2⟩ := id hl2.isList
  simp only at hc2 hd2
  subst hc2 hd2
  have hl2' := r2.length
  have hsz : its.toArray.size + its2.toArray.size ≤ sizeLine := by rw [List.size_toArray, List.size_toArray]; omega
  have hlong : ¬ (!its.toArray.isEmpty && Builtin.List.listTooLong (its.toArray.size + its2.toArray.size)) = true := by
    rw [notLongL hsz, Bool.and_false]
    exact Bool.false_ne_true
  refine call_meets PySem.F.slot_list_extend ⟨_, e, rfl⟩ PySem.F.entry_list_extend (PySem.F.args_list_extend_2 _ _)
    (list_extW l its.toArray n b its2.toArray n2 dd2 sl2 hlong (by rw [List.size_toArray]; omega) (by omega)) ⟨e, ho2, ?_⟩
  refine ⟨.non, _, I.lset (its' := its ++ its2) hH e (by simp) (r.append r2) ?_, rfl, q⟩
  rw [List.length_append]
  omega
end Vp
namespace Vp
open PySem PySem.Spec PyProof.Rows L2

/-! ### operations by data -/
mutual
def toPy : D → PyData
  | .non => .none | .bl b => .bool b | .int i => .int i | .str x => .str x
  | .tup ds => .tuple (toPys ds) | .lst ds => .list (toPys ds) | .ref _ => .none | .ty _ => .none | .dic _ _ => .none
def toPys : List D → List PyData
  | [] => [] | d :: r => toPy d :: toPys r
end
mutual
def pyOk : D → Bool
  | .tup ds => pyOks ds | .lst ds => pyOks ds | .ref _ => false | .ty _ => false | .dic _ _ => false | _ => true
def pyOks : List D → Bool
  | [] => true | d :: r => pyOk d && pyOks r
end
section
variable {K : PySem.W.Frag} {F H : Hp}
mutual
theorem Rep.dp (e : Ex F H) : ∀ {v : V} {d : D}, Rep K F v d → pyOk d = true → Dp K H v (toPy d)
  | _, _, .non, _ => .non
  | _, _, .bl b, _ => .bl b
  | _, _, .int i, _ => .int i
  | _, _, .str x, _ => .str x
  | _, _, .ref a, h => by unfold pyOk at h; cases h
  | _, _, .ty n, h => by unfold pyOk at h; cases h
  | _, _, .dic _ _ _, h => by unfold pyOk at h; cases h
  | _, _, .tup s r, h => by unfold toPy; unfold pyOk at h; exact .tup (ex_t e s) (RepL.dp e r h)
  | _, _, .lst s r, h => by unfold toPy; unfold pyOk at h; exact .lst (ex_l e s) (RepL.dp e r h)
theorem RepL.dp (e : Ex F H) : ∀ {vs : List V} {ds : List D}, RepL K F vs ds → pyOks ds = true → DpAll K H vs (toPys ds)
  | _, _, .nil, _ => .nil
  | _, _, .cons h t, q => by
    unfold pyOks at q
    obtain ⟨q1, q2⟩ := Bool.and_eq_true_iff.mp q
    unfold toPys
    exact .cons (Rep.dp e h q1) (RepL.dp e t q2)
end
end
def eqOk (d : D) : Bool := pyOk d && SeqAt.shaped (toPy d)
def cmpEq : D → D → Option Bool
  | .int i, .int j => some (decide (i = j))
  | .bl i, .bl j => some (decide (i = j))
  | .str i, .str j => some (decide (i = j))
  | .non, .non => some true
  | .non, .int _ => some false | .int _, .non => some false | .non, .bl _ => some false | .bl _, .non => some false | .non, .str _ => some false | .str _, .non => some false
  | .int _, .str _ => some false | .str _, .int _ => some false | .bl _, .str _ => some false | .str _, .bl _ => some false
  | a, b => if eqOk a && eqOk b then some (PyData.eqv (toPy a) (toPy b)) else none
def cmpIs : D → D → Option Bool
  | .non, .non => some true
  | .bl _, .non => some false | .int _, .non => some false | .str _, .non => some false | .tup _, .non => some false | .lst _, .non => some false | .ref _, .non => some false
  | .bl i, .bl j => some (decide (i = j))
  | _, _ => none
def allInt : List D → Option (List Int)
  | [] => some []
  | .int i :: r => (allInt r).map (i :: ·)
  | _ :: _ => none
def cmpV : CmpOp → D → D → Option Bool
  | .Eq, a, b => cmpEq a b
  | .NotEq, a, b => (cmpEq a b).map not
  | .Is, a, b => cmpIs a b
  | .IsNot, a, b => (cmpIs a b).map not
  | .Lt, .int i, .int j => some (decide (i < j))
  | .Lt, .lst xs, .lst ys => match allInt xs, allInt ys with | some ns, some ms => some (HT.lexLt ns ms) | _, _ => none
  | .LtE, .int i, .int j => some (decide (i ≤ j))
  | .Gt, .int i, .int j => some (decide (j < i))
  | .GtE, .int i, .int j => some (decide (j ≤ i))
  | _, _, _ => none
def binV : Operator → D → D → Option D
  | .Add, .int i, .int j => some (.int (i + j))
  | .Add, .str x, .str y => if x.length + y.length ≤ 16777216 then some (.str (x ++ y)) else none
  | .Add, .tup xs, .tup ys => if xs.length + ys.length ≤ 16777216 then some (.tup (xs ++ ys)) else none
  | .Add, .lst xs, .lst ys => if xs.length + ys.length ≤ 16777216 then some (.lst (xs ++ ys)) else none
  | .Sub, .int i, .int j => some (.int (i - j))
  | .Mult, .int i, .int j => if (-(2 ^ 64) < i ∧ i < 2 ^ 64) ∨ (-(2 ^ 64) < j ∧ j < 2 ^ 64) then some (.int (i * j)) else none
  | .Mult, .str x, .int n => if n ≤ 16777216 ∧ -(2 ^ 62) ≤ n ∧ x.length * n.toNat ≤ 16777216 then some (.str (Txt.mul x n)) else none
  | .FloorDiv, .int i, .int j => if j ≠ 0 ∧ j.natAbs < 1073741824 then some (.int (i.fdiv j)) else none
  | .Mod, .int i, .int j => if j ≠ 0 then some (.int (i.fmod j)) else none
  | .Pow, .int i, .int j => if 0 ≤ j ∧ j ≤ 1000000 ∧ i.natAbs < 2 ^ 64 then some (.int (i ^ j.toNat)) else none
  | .LShift, .int i, .int j => if 0 ≤ j ∧ j ≤ 1000000 ∧ i.natAbs < 2 ^ 64 then some (.int (i * 2 ^ j.toNat)) else none
  | .RShift, .int i, .int j => if 0 ≤ j then some (.int (i / 2 ^ j.toNat)) else none
  | .BitAnd, .int i, .int j => some (.int (Builtin.bitAnd i j))
  | _, _, _ => none
def truD (M : Mo) : D → Option Bool
  | .non => some false | .bl b => some b | .int i => some (i != 0)
  | .str x => if x.length ≤ 16777216 then some ((x.length : Int) != 0) else none
  | .tup ds => some (!ds.isEmpty) | .lst ds => some (!ds.isEmpty)
  | .ref p => match M p with | some (.lst ds) => some (!ds.isEmpty) | some (.dK kvs) => some (!kvs.isEmpty) | _ => none
  | .ty _ => none
  | .dic _ _ => none
def keyD : D → Option Key
  | .int i => some (.inl i) | .str x => some (.inr x) | _ => none
/-- a tuple's items as a key -/
def keyL : List D → Option (List Key)
  | [] => some []
  | d :: r => match keyD d, keyL r with | some k, some ks => some (k :: ks) | _, _ => none
def valD {κ : Type} [DecidableEq κ] (kvs : List (κ × D)) (k : κ) : Option D := (kvs.find? fun kv => decide (kv.1 = k)).map (·.2)
def putD {κ : Type} [DecidableEq κ] (kvs : List (κ × D)) (k : κ) (v : D) : List (κ × D) :=
  if (kvs.any fun kv => decide (kv.1 = k)) = true then kvs.map (fun kv => if kv.1 = k then (kv.1, v) else kv) else kvs ++ [(k, v)]
def putFD (f : Str) (v : D) : List (Str × D) → List (Str × D)
  | [] => [(f, v)]
  | (g, x) :: r => if g = f then (g, v) :: r else (g, x) :: putFD f v r
def ixV (M : Mo) : D → D → Option D
  | .tup ds, .int i => atI ds i
  | .lst ds, .int i => atI ds i
  | .str x, .int i => if x.length ≤ 16777216 then (atI x.cps.toList i).map fun c => .str ⟨#[c]⟩ else none
  | .ref p, .int i => match M p with | some (.lst ds) => atI ds i | some (.dK kvs) => valD kvs (.inl i) | _ => none
  | .ref p, .str x => match M p with | some (.dK kvs) => valD kvs (.inr x) | _ => none
  | _, _ => none
def setV : Option MO → D → D → Option MO
  | some (.lst ds), .int n, d => (ixN ds.length n).map fun j => .lst (ds.set j d)
  | some (.dK kvs), .int n, d => if kvs.length < 16777216 then some (.dK (putD kvs (.inl n) d)) else none
  | some (.dK kvs), .str x, d => if kvs.length < 16777216 then some (.dK (putD kvs (.inr x) d)) else none
  | _, _, _ => none
def instI (M : Mo) : D → String → Option Bool
  | .non, T => if T = "int" ∨ T = "bool" ∨ T = "str" ∨ T = "tuple" ∨ T = "list" ∨ T = "dict" then some false else none
  | .bl _, T => if T = "int" ∨ T = "bool" then some true else if T = "str" ∨ T = "tuple" ∨ T = "list" ∨ T = "dict" then some false else none
  | .int _, T => if T = "int" then some true else if T = "bool" ∨ T = "str" ∨ T = "tuple" ∨ T = "list" ∨ T = "dict" then some false else none
  | .str _, T => if T = "str" then some true else if T = "int" ∨ T = "bool" ∨ T = "tuple" ∨ T = "list" ∨ T = "dict" then some false else none
  | .tup _, T => if T = "tuple" then some true else if T = "int" ∨ T = "bool" ∨ T = "str" ∨ T = "list" ∨ T = "dict" then some false else none
  | .lst _, T => if T = "list" then some true else if T = "int" ∨ T = "bool" ∨ T = "str" ∨ T = "tuple" ∨ T = "dict" then some false else none
  | .ref p, T => match M p with
    | some (.lst _) => if T = "list" then some true else if T = "int" ∨ T = "bool" ∨ T = "str" ∨ T = "tuple" ∨ T = "dict" then some false else none
    | some (.dK _) => if T = "dict" then some true else if T = "int" ∨ T = "bool" ∨ T = "str" ∨ T = "tuple" ∨ T = "list" then some false else none
    | _ => none
  | .ty _, _ => none
  | .dic _ _, _ => none
def seqV (M : Mo) : D → Option (List D)
  | .tup ds => some ds | .lst ds => some ds
  | .ref p => match M p with | some (.lst ds) => some ds | _ => none
  | _ => none
def cutD (ds : List D) (lo hi : Option Int) : List D := (ds.drop (HT.sIx ds.length 0 lo)).take (HT.sIx ds.length ds.length hi - HT.sIx ds.length 0 lo)
/-- x[lo:hi]: a list's part is a new list that will not change -/
def slV (M : Mo) : D → Option Int → Option Int → Option D
  | .tup ds, lo, hi => some (.tup (cutD ds lo hi))
  | .lst ds, lo, hi => some (.lst (cutD ds lo hi))
  | .str x, lo, hi => if x.length ≤ 16777216 then some (.str (cutS x lo hi)) else none
  | .ref p, lo, hi => match M p with | some (.lst ds) => some (.lst (cutD ds lo hi)) | _ => none
  | _, _, _ => none
def flatD : D → Bool
  | .non => true | .bl _ => true | .int _ => true | .str _ => true | _ => false
def eqFl : D → D → Bool
  | .non, .non => true
  | .bl a, .bl b => a == b
  | .bl a, .int b => (if a then 1 else 0) == b
  | .int a, .bl b => a == (if b then 1 else 0)
  | .int a, .int b => a == b
  | .str a, .str b => a == b
  | _, _ => false
/-- x in y -/
def inSq (x : D) (ds : List D) : Option Bool := if flatD x && ds.all flatD then some (ds.any fun d => eqFl d x) else none
def inV (M : Mo) : D → D → Option Bool
  | .str i, .str j => some (!(Builtin.Str.occurrences j i 0 j.length 1).isEmpty)
  | x, .tup ds => inSq x ds
  | x, .lst ds => inSq x ds
  | x, .ref p => match M p with
    | some (.lst ds) => inSq x ds
    | some (.dK kvs) => (keyD x).map fun k => (valD kvs k).isSome
    | _ => none
  | _, _ => none
inductive Bi where
  | abs | max | min | int | len | tuple | list (m : Bool) | isinst | str | sum | all | any | dict
  deriving DecidableEq
def Bi.name : Bi → Str
  | .abs => "abs" | .max => "max" | .min => "min" | .int => "int" | .len => "len" | .tuple => "tuple" | .list _ => "list" | .isinst => "isinstance" | .str => "str" | .sum => "sum" | .all => "all" | .any => "any" | .dict => "dict"
/-- a list's items -/
def seqL' (M : Mo) : D → Option (List D)
  | .lst ds => some ds
  | .ref p => match M p with | some (.lst ds) => some ds | _ => none
  | _ => none
def allBl : List D → Option (List Bool)
  | [] => some []
  | .bl i :: r => (allBl r).map (i :: ·)
  | _ :: _ => none
def Bi.val (M : Mo) : Bi → List D → Option D
  | .abs, [.int i] => some (.int (if i < 0 then -i else i))
  | .max, [.int i, .int j] => some (.int (if j > i then j else i))
  | .max, [d] => (seqL' M d).bind fun ds => (allInt ds).bind fun ns => ns.max?.map .int
  | .min, [.int i, .int j] => some (.int (if j < i then j else i))
  | .int, [.int i] => some (.int i)
  | .int, [.bl k] => some (.int (if k then 1 else 0))
  | .len, [.str x] => if x.length ≤ 16777216 then some (.int x.length) else none
  | .len, [d] => (seqV M d).map fun ds => .int ds.length
  | .tuple, [d] => (seqV M d).map .tup
  | .list false, [d] => (seqV M d).map .lst
  | .isinst, [d, .ty T] => (instI M d T).map .bl
  | .str, [.int i] => if i.natAbs.log2 < 1920 then some (.str (toString i)) else none
  | .sum, [d] => (seqL' M d).bind fun ds => (allInt ds).map fun ns => .int ns.sum
  | .all, [d] => (seqL' M d).bind fun ds => (allBl ds).map fun bs => .bl (bs.all id)
  | .any, [d] => (seqL' M d).bind fun ds => (allBl ds).map fun bs => .bl (bs.any id)
  | _, _ => none
def Bi.wp (b : Bi) (ds : List D) (M : Mo) (Q : QE) : Prop := match b with
  | .list true => ∃ d xs, ds = [d] ∧ seqV M d = some xs ∧ ∀ p, M p = none → Q (.ref p) (updM M p (.lst xs))
  | .dict => ∃ a kvs, ds = [.ref a] ∧ M a = some (.dK kvs) ∧ ∀ p, M p = none → Q (.ref p) (updM M p (.dK kvs))
  | b => ∃ d, b.val M ds = some d ∧ Q d M
end Vp
namespace Vp
open PySem PySem.Spec PyProof.Rows L2
open PySem.AutoSeq1 (wpAny_loadPart')

/-! ### list.index(x, start) -/
theorem list_indexFrom (l : Addr) (items : Array Value) (n : Nat) (dd : Option Addr) (sl : Array (Option Value)) (x : Value) (i : Nat) (t : Tok) (e : Value → Bool) (j : Nat) (hj : j < items.size) (hij : i ≤ j) (hsmall : (j : Int) < 2 ^ 63 - 1)
    (hit : e items[j] = true) (hno : ∀ m (hm : m < items.size), i ≤ m → m < j → e items[m] = false) :
    Meets (Builtin.«list.index» ⟨[.ref l, x, .int (i : Nat) t], []⟩)
      (fun A R s => s.heap.get? l = some { cls := .type "list", dict := dd, data := .seq items n, slots := sl } ∧ (∀ y, y ∈ items → SeqAt.EqAt A.in1 s y x (e y)) ∧ R (.ok (.ret (.int j s.toks))) { s with toks := s.toks + 1 }) := by
  intro prog w A R s h
  obtain ⟨hp, g, d, tk, os⟩ := s; obtain ⟨hl, he, h⟩ := h
  wp_walk using wpAny_loadPart' hl
  have a1 : ((fun i : Int => if i < 0 then max 0 (i + (items.size : Int)) else i) ((some (i : Int)).getD 0)) = ((i : Nat) : Int) := by simp; omega
  have a2 : ((fun i : Int => if i < 0 then max 0 (i + (items.size : Int)) else i) ((none : Option Int).getD (2 ^ 63 - 1))) = 2 ^ 63 - 1 := by simp
  rw [a1, a2]
  exact ⟨plainId_quiet MeetsSeq.plain_index_loop _, codeAny_builtin MeetsSeq.entry_index_loop (by
    rw [Around.under_plainId MeetsSeq.plain_index_loop _]
    exact SeqAt.index_loopAt l items n dd sl x e (2 ^ 63 - 1) j hj hsmall hit _ i rfl hij (fun m hm h1 h2 => hno m hm h1 h2) prog w A R _ ⟨hl, he, h⟩)⟩
def rIndexFrom (K : PySem.W.Frag) : V → List V → Hp → VK → Prop := fun x xs H Q => ∃ (a : Addr) (ys : List V) (y : V) (i j : Nat) (z : V), x = V.ref a ∧ xs = [y, .int (i : Nat)] ∧ SqL K H a ys ∧ flatV y = true ∧ ys.all flatV = true ∧ i ≤ j ∧ ys[j]? = some z ∧ eqV z y = true ∧
  (∀ (m : Nat) (z' : V), i ≤ m → m < j → ys[m]? = some z' → eqV z' y = false) ∧ Q (.int (j : Nat)) H
theorem mt_indexFrom {X : Cx} : MtR X "list.index" (rIndexFrom X.K) := by
  intro pins s σ H x xs v us Q I rx rxs h
  obtain ⟨a, ys, y, i, j, z, rfl, rfl, hs, fy, fys, hij, hz, hzj, hno, q⟩ := h
  cases rx
  cases rxs with
  | cons ry rt =>
    rename_i uy ut
    cases rt with
    | cons ri rt =>
    cases rt
    obtain ⟨ti, rfl⟩ := ri
    obtain ⟨its, rv, ⟨⟨cls, dd, data, sl⟩, n, ho, hc, hdn, hd⟩, hlen⟩ := I.list hs
    simp only at hc hd
    subst hc hd
    obtain ⟨u, hu, ru⟩ := rv.get hz
    obtain ⟨hjl, hje⟩ := List.getElem?_eq_some_iff.mp hu
    have hvl := rv.length
    have hj : j < its.toArray.size := by simpa using hjl
    have hsl := sizeLine_eq
    refine call_meets PySem.F.slot_list_index ⟨_, ho, rfl⟩ PySem.F.entry_list_index (PySem.F.args_list_index_3 _ _ _)
      (list_indexFrom a its.toArray n dd sl uy i ti (eqU y) j hj hij (by omega) ?_ ?_) ⟨ho, fun u' hu' => mem_eqAt ry fy rv fys u' (by simpa using hu'), ?_⟩
    · have e1 : its.toArray[j] = u := by simpa using hje
      rw [e1, eqU_of ru (flat_at fys hz)]
      exact hzj
    · intro m hm him hmj
      have hml : m < its.length := by simpa using hm
      have hmy : m < ys.length := by omega
      have hy' : ys[m]? = some ys[m] := List.getElem?_eq_getElem hmy
      obtain ⟨u2, hu2, ru2⟩ := rv.get hy'
      obtain ⟨_, hme⟩ := List.getElem?_eq_some_iff.mp hu2
      have e1 : its.toArray[m] = u2 := by simpa using hme
      rw [e1, eqU_of ru2 (flat_at fys hy')]
      exact hno m _ him hmj hy'
    · exact ⟨.int (j : Nat), H, I.tok _, ⟨_, rfl⟩, q⟩

/-! ### xs < ys, lists of ints -/
theorem first_lex : ∀ (ns ms pre : List Int) (pre2 : List Int), pre.length = pre2.length →
    SeqAt.firstLt (fun j => decide ((pre ++ ns)[j]? = (pre2 ++ ms)[j]?)) (fun j => match (pre ++ ns)[j]?, (pre2 ++ ms)[j]? with | some a, some b => decide (a < b) | _, _ => false) (decide (ns.length < ms.length)) (List.range' pre.length (min ns.length ms.length)) = HT.lexLt ns ms
  | [], [], pre, pre2, _ => by simp [SeqAt.firstLt, HT.lexLt]
  | [], _ :: _, pre, pre2, _ => by simp [SeqAt.firstLt, HT.lexLt]
  | _ :: _, [], pre, pre2, _ => by simp [SeqAt.firstLt, HT.lexLt]
  | n :: ns, m :: ms, pre, pre2, hp => by
    have hmin : min (n :: ns).length (m :: ms).length = min ns.length ms.length + 1 := by simp
    have g1 : (pre ++ n :: ns)[pre.length]? = some n := by simp
    have g2 : (pre2 ++ m :: ms)[pre.length]? = some m := by rw [hp]; simp
    have hd : decide ((n :: ns).length < (m :: ms).length) = decide (ns.length < ms.length) := by simp
    rw [hmin, List.range'_succ, HT.lexLt_cons, hd]
    by_cases e : n = m
    · rw [SeqAt.firstLt_yes (by rw [g1, g2, e]; simp), if_pos e]
      have ih := first_lex ns ms (pre ++ [n]) (pre2 ++ [m]) (by simp [hp])
      simp only [List.append_assoc, List.singleton_append, List.length_append, List.length_singleton] at ih
      exact ih
    · rw [SeqAt.firstLt_no (by rw [g1, g2]; simp [e]), if_neg e, g1, g2]
def rLtL (K : PySem.W.Frag) : R2 := fun x y H Q => ∃ a b ns ms, x = .ref a ∧ y = .ref b ∧ SqL K H a (ns.map V.int) ∧ SqL K H b (ms.map V.int) ∧ Q (.bl (HT.lexLt ns ms)) H
theorem op_ltL {X : Cx} (hu : X.A.units + 1 < cLine) : OpR X (compareOp .Lt) (rLtL X.K) := by
  intro pins s σ H x y v u Q I rx ry h
  obtain ⟨a, b, ns, ms, rfl, rfl, ha, hb, q⟩ := h
  cases rx
  cases ry
  obtain ⟨its, r1, p1, _⟩ := I.list ha
  obtain ⟨its2, r2, p2, _⟩ := I.list hb
  have l1 := r1.length
  have l2 := r2.length
  rw [List.length_map] at l1 l2
  have at1 : ∀ j (h1 : j < its.length), ∃ i : Int, ns[j]? = some i ∧ RelV (V.int i) its[j] := fun j h1 => by
    have hj : j < ns.length := by omega
    have e : (ns.map V.int)[j]? = some (.int ns[j]) := by simp [hj]
    obtain ⟨w, hw, rw'⟩ := r1.get e
    obtain ⟨_, e2⟩ := List.getElem?_eq_some_iff.mp hw
    exact ⟨ns[j], List.getElem?_eq_getElem hj, e2 ▸ rw'⟩
  have at2 : ∀ j (h1 : j < its2.length), ∃ i : Int, ms[j]? = some i ∧ RelV (V.int i) its2[j] := fun j h1 => by
    have hj : j < ms.length := by omega
    have e : (ms.map V.int)[j]? = some (.int ms[j]) := by simp [hj]
    obtain ⟨w, hw, rw'⟩ := r2.get e
    obtain ⟨_, e2⟩ := List.getElem?_eq_some_iff.mp hw
    exact ⟨ms[j], List.getElem?_eq_getElem hj, e2 ▸ rw'⟩
  have main := first_lex ns ms [] [] rfl
  simp only [List.nil_append, List.length_nil] at main
  refine SeqAt.RcLt.lists (e := fun j => decide (ns[j]? = ms[j]?)) (r := fun j => match ns[j]?, ms[j]? with | some a, some b => decide (a < b) | _, _ => false) p1.isList p2.isList (by omega) (fun j h1 h2 => ?_) (fun j h1 h2 _ => ?_) X.prog X.w X.xe _ ?_
  · obtain ⟨i, e1, q1⟩ := at1 j (by simpa using h1)
    obtain ⟨k, e2, q2⟩ := at2 j (by simpa using h2)
    have t := eqAt_V (A := X.A.in1) (s := s) q1 q2 rfl rfl
    have hk : eqV (V.int i) (V.int k) = decide (ns[j]? = ms[j]?) := by
      rw [e1, e2]
      show (i == k) = _
      by_cases h : i = k <;> simp [h]
    rw [hk] at t
    simpa using t
  · obtain ⟨i, e1, q1⟩ := at1 j (by simpa using h1)
    obtain ⟨k, e2, q2⟩ := at2 j (by simpa using h2)
    obtain ⟨t1, hv1⟩ := q1
    obtain ⟨t2, hv2⟩ := q2
    intro prog w E Q hq
    have hq' : Q (.bool (decide (i < k))) s := by
      have : (match ns[j]?, ms[j]? with | some a, some b => decide (a < b) | _, _ => false) = decide (i < k) := by rw [e1, e2]
      rw [← this]; exact hq
    have this : wpAny (model prog w) X.A.in1 (richCompare .Lt (.int i t1) (.int k t2)) Q E s := lt_int (prog := prog) (w := w) (A := X.A.in1) (E := E) (t := t1) (u := t2) hq'
    simpa [hv1, hv2] using this
  · have hs1 : its.toArray.size = ns.length := by simp [l1]
    have hs2 : its2.toArray.size = ms.length := by simp [l2]
    rw [hs1, hs2, List.range_eq_range', main]
    exact ⟨.bl (HT.lexLt ns ms), H, I, rfl, q⟩
end Vp
namespace Vp
open PySem PySem.Spec PyProof.Rows L2

/-- an operation by data is sound -/
def OpL (K : PySem.W.Frag) (r : R2) (f : D → D → Mo → QE → Prop) : Prop := ∀ (x y : V) (d1 d2 : D) (F H : Hp) (M : Mo) (Q : VK) (Q' : QE), Sat K F H M → Rep K F x d1 → Rep K F y d2 → f d1 d2 M Q' → PV K F M H Q Q' → r x y H Q
/-- what a data operation gives -/
def fOp (g : D → D → Option D) : D → D → Mo → QE → Prop := fun a b M Q => ∃ d, g a b = some d ∧ Q d M
def fCmp (g : D → D → Option Bool) : D → D → Mo → QE → Prop := fun a b M Q => ∃ k, g a b = some k ∧ Q (.bl k) M
section
variable {K : PySem.W.Frag} {F H : Hp} {M : Mo} {Q : VK} {Q' : QE}
theorem PV.here (s : Sat K F H M) (p : PV K F M H Q Q') {d : D} {v : V} (q : Q' d M) (r : Rep K F v d) : Q v H := p d M q F H v (Step.refl s) r
/-- a new object, by value -/
theorem PV.fresh (s : Sat K F H M) (p : PV K F M H Q Q') {d : D} {a : Addr} {o : HO} (q : Q' d M) (h : H a = none) (r : Rep K (upd F a o) (.ref a) d) : Q (.ref a) (upd H a o) := p d M q _ _ _ (s.newF h o) r
/-- a new object that may change -/
theorem PV.freshM (s : Sat K F H M) (p : PV K F M H Q Q') {a : Addr} {o : HO} {mo : MO} (q : ∀ p, M p = none → Q' (.ref p) (updM M p mo)) (h : H a = none) (r : RepO K F o mo) : Q (.ref a) (upd H a o) := p _ _ (q a (s.none h).2) _ _ _ (s.newM h r) (.ref a)
theorem new_tup (s : Sat K F H M) {a : Addr} {xs : List V} {ds : List D} (h : H a = none) (r : RepL K F xs ds) : Rep K (upd F a (.tup xs)) (.ref a) (.tup ds) := .tup (SqT.of upd_same) (r.mono ((Ex.refl F).new (s.none h).1))
theorem new_lst (s : Sat K F H M) {a : Addr} {xs : List V} {ds : List D} (h : H a = none) (r : RepL K F xs ds) : Rep K (upd F a (.lst xs)) (.ref a) (.lst ds) := .lst (SqL.of upd_same) (r.mono ((Ex.refl F).new (s.none h).1))
end
theorem szl {n : Nat} (h : n ≤ 16777216) : n ≤ sizeLine := by rw [sizeLine_eq]; exact h

section
variable {K : PySem.W.Frag}
theorem opl_int {op : Operator} {g : Int → Int → V} {f : Int → Int → D} (hb : ∀ i j d, binV op (.int i) (.int j) = some d → d = f i j) (hr : ∀ F i j, Rep K F (g i j) (f i j)) {x y : V} {i j : Int} {F H : Hp} {M : Mo} {Q : VK} {Q' : QE} (s : Sat K F H M) (rx : Rep K F x (.int i)) (ry : Rep K F y (.int j))
    (h : fOp (binV op) (.int i) (.int j) M Q') (p : PV K F M H Q Q') : x = .int i ∧ y = .int j ∧ Q (g i j) H := by
  obtain ⟨d, e, q⟩ := h
  cases rx; cases ry
  obtain rfl := hb i j d e
  exact ⟨rfl, rfl, p.here s q (hr F i j)⟩
theorem opl_add : OpL K (fun x y H Q => rI0 (fun i j => .int (i + j)) x y H Q ∨ (fun x y H Q => ∃ i j, x = .str i ∧ y = .str j ∧ i.length + j.length ≤ sizeLine ∧ Q (.str (i ++ j)) H) x y H Q ∨ rCatA K x y H Q ∨ rCatL K x y H Q) (fOp (binV .Add)) := by
  intro x y d1 d2 F H M Q Q' s rx ry h p
  cases rx with
  | int i =>
    cases ry with
    | int j =>
      obtain ⟨d, e, q⟩ := h
      cases e
      exact .inl ⟨i, j, rfl, rfl, p.here s q (.int _)⟩
    | _ => obtain ⟨d, e, q⟩ := h; cases e
  | str i =>
    cases ry with
    | str j =>
      obtain ⟨d, e, q⟩ := h
      simp only [binV] at e
      split at e
      · rename_i hz
        cases e
        exact .inr (.inl ⟨i, j, rfl, rfl, szl hz, p.here s q (.str _)⟩)
      · cases e
    | _ => obtain ⟨d, e, q⟩ := h; cases e
  | @tup a xs ds h1 r1 =>
    cases ry with
    | @tup b ys es h2 r2 =>
      obtain ⟨d, e, q⟩ := h
      simp only [binV] at e
      split at e
      · rename_i hz
        cases e
        refine .inr (.inr (.inl ⟨a, b, xs, ys, rfl, rfl, ex_t s.ex h1, ex_t s.ex h2, szl (by rw [r1.length, r2.length]; exact hz), fun e => ?_, fun _ e => ?_, fun _ _ c hc => ?_⟩))
        · subst e
          cases r1
          exact p.here s q (.tup h2 r2)
        · subst e
          cases r2
          rw [List.append_nil] at q
          exact p.here s q (.tup h1 r1)
        · exact p.fresh s q hc (new_tup s hc (r1.append r2))
      · cases e
    | _ => obtain ⟨d, e, q⟩ := h; cases e
  | @lst a xs ds h1 r1 =>
    cases ry with
    | @lst b ys es h2 r2 =>
      obtain ⟨d, e, q⟩ := h
      simp only [binV] at e
      split at e
      · rename_i hz
        cases e
        exact .inr (.inr (.inr ⟨a, b, xs, ys, rfl, rfl, ex_l s.ex h1, ex_l s.ex h2, szl (by rw [r1.length, r2.length]; exact hz), fun c hc => p.fresh s q hc (new_lst s hc (r1.append r2))⟩))
      · cases e
    | _ => obtain ⟨d, e, q⟩ := h; cases e
  | _ => obtain ⟨d, e, q⟩ := h; cases e
theorem opl_sub : OpL K (rI0 fun i j => .int (i - j)) (fOp (binV .Sub)) := by
  intro x y d1 d2 F H M Q Q' s rx ry h p
  obtain ⟨d, e, q⟩ := h
  cases rx <;> first | (cases e; done) | skip
  cases ry <;> first | (cases e; done) | skip
  cases e
  exact ⟨_, _, rfl, rfl, p.here s q (.int _)⟩
theorem op_mulS {X : Cx} : OpR X (binaryOp .Mult) (fun x y H Q => ∃ i n, x = .str i ∧ y = .int n ∧ MulOk i n ∧ Q (.str (Txt.mul i n)) H) := by
  intro pins s σ H x y v u Q I rx ry h
  obtain ⟨i, n, rfl, rfl, hz, q⟩ := h
  obtain ⟨t, rfl⟩ : ∃ t, v = .str i t := rx
  obtain ⟨t2, rfl⟩ : ∃ t, u = .int n t := ry
  exact SB.mul hz fun t' k => ⟨.str _, H, I.tok _, ⟨_, rfl⟩, q⟩
theorem mulOk_of {x : Str} {n : Int} (h1 : n ≤ 16777216) (h2 : -(2 ^ 62) ≤ n) (h3 : x.length * n.toNat ≤ 16777216) : MulOk x n := by
  refine ⟨?_, fun hn _ hc => ?_, fun hn _ => ?_⟩
  · have a : ¬ n < -(2 ^ 63) := by omega
    have b : ¬ n ≥ 2 ^ 63 := by omega
    simp only [a, b, decide_false, Bool.or_self]
  · have hn' : 0 < n := by omega
    have e : (n.toNat : Int) = n := Int.toNat_of_nonneg (by omega)
    have h4 : (x.length : Int) * n ≤ 16777216 := by
      rw [← e]
      rw [← Int.natCast_mul]
      exact Int.ofNat_le.mpr h3
    have h5 : ((2 : Int) ^ 63 - 1) / n < x.length := hc
    have h6 := Int.lt_mul_of_ediv_lt hn' h5
    have h7 : (2 : Int) ^ 63 - 1 < 16777216 := Int.lt_of_lt_of_le h6 h4
    exact absurd h7 (by decide)
  · exact decide_eq_false (by rw [sizeLine_eq]; omega)
theorem opl_mul : OpL K (fun x y H Q => rI CMul (fun i j => .int (i * j)) x y H Q ∨ (fun x y H Q => ∃ i n, x = .str i ∧ y = .int n ∧ MulOk i n ∧ Q (.str (Txt.mul i n)) H) x y H Q) (fOp (binV .Mult)) := by
  intro x y d1 d2 F H M Q Q' s rx ry h p
  obtain ⟨d, e, q⟩ := h
  cases rx with
  | int i =>
    cases ry with
    | int j =>
      simp only [binV] at e
      split at e
      · rename_i hz
        cases e
        exact .inl ⟨_, _, rfl, rfl, hz, p.here s q (.int _)⟩
      · cases e
    | _ => cases e
  | str i =>
    cases ry with
    | int j =>
      simp only [binV] at e
      split at e
      · rename_i hz
        cases e
        exact .inr ⟨_, _, rfl, rfl, mulOk_of hz.1 hz.2.1 hz.2.2, p.here s q (.str _)⟩
      · cases e
    | _ => cases e
  | _ => cases ry <;> cases e
theorem opl_fdiv : OpL K (rI CDivN fun i j => .int (i.fdiv j)) (fOp (binV .FloorDiv)) := by
  intro x y d1 d2 F H M Q Q' s rx ry h p
  obtain ⟨d, e, q⟩ := h
  cases rx <;> first | (cases e; done) | skip
  cases ry <;> first | (cases e; done) | skip
  simp only [binV] at e
  split at e
  · rename_i hz
    cases e
    exact ⟨_, _, rfl, rfl, hz, p.here s q (.int _)⟩
  · cases e
theorem opl_mod : OpL K (rI (fun _ j => j ≠ 0) fun i j => .int (i.fmod j)) (fOp (binV .Mod)) := by
  intro x y d1 d2 F H M Q Q' s rx ry h p
  obtain ⟨d, e, q⟩ := h
  cases rx <;> first | (cases e; done) | skip
  cases ry <;> first | (cases e; done) | skip
  simp only [binV] at e
  split at e
  · rename_i hz
    cases e
    exact ⟨_, _, rfl, rfl, hz, p.here s q (.int _)⟩
  · cases e
theorem opl_pow : OpL K (rI CPow fun i j => .int (i ^ j.toNat)) (fOp (binV .Pow)) := by
  intro x y d1 d2 F H M Q Q' s rx ry h p
  obtain ⟨d, e, q⟩ := h
  cases rx <;> first | (cases e; done) | skip
  cases ry <;> first | (cases e; done) | skip
  simp only [binV] at e
  split at e
  · rename_i hz
    cases e
    exact ⟨_, _, rfl, rfl, hz, p.here s q (.int _)⟩
  · cases e
theorem opl_shl : OpL K (rI CPow fun i j => .int (i * 2 ^ j.toNat)) (fOp (binV .LShift)) := by
  intro x y d1 d2 F H M Q Q' s rx ry h p
  obtain ⟨d, e, q⟩ := h
  cases rx <;> first | (cases e; done) | skip
  cases ry <;> first | (cases e; done) | skip
  simp only [binV] at e
  split at e
  · rename_i hz
    cases e
    exact ⟨_, _, rfl, rfl, hz, p.here s q (.int _)⟩
  · cases e
theorem opl_shr : OpL K (rI (fun _ j => 0 ≤ j) fun i j => .int (i / 2 ^ j.toNat)) (fOp (binV .RShift)) := by
  intro x y d1 d2 F H M Q Q' s rx ry h p
  obtain ⟨d, e, q⟩ := h
  cases rx <;> first | (cases e; done) | skip
  cases ry <;> first | (cases e; done) | skip
  simp only [binV] at e
  split at e
  · rename_i hz
    cases e
    exact ⟨_, _, rfl, rfl, hz, p.here s q (.int _)⟩
  · cases e
theorem opl_band : OpL K (rI0 fun i j => .int (Builtin.bitAnd i j)) (fOp (binV .BitAnd)) := by
  intro x y d1 d2 F H M Q Q' s rx ry h p
  obtain ⟨d, e, q⟩ := h
  cases rx <;> first | (cases e; done) | skip
  cases ry <;> first | (cases e; done) | skip
  cases e
  exact ⟨_, _, rfl, rfl, p.here s q (.int _)⟩
def supB : Operator → Bool | .Add | .Sub | .Mult | .FloorDiv | .Mod | .Pow | .LShift | .RShift | .BitAnd => true | _ => false
def supC : CmpOp → Bool | .Eq | .NotEq | .Is | .IsNot | .Lt | .LtE | .Gt | .GtE => true | _ => false
theorem binop_ok {X : Cx} {op : Operator} (h : supB op = true) : ∃ r, OpR X (binaryOp op) r ∧ OpL X.K r (fOp (binV op)) := by
  cases op with
  | Add => exact ⟨_, op_add.or (op_add_str.or (op_catA.or op_catL)), opl_add⟩
  | Sub => exact ⟨_, op_sub, opl_sub⟩
  | Mult => exact ⟨_, op_mul.or op_mulS, opl_mul⟩
  | FloorDiv => exact ⟨_, op_fdivN, opl_fdiv⟩
  | Mod => exact ⟨_, op_modN, opl_mod⟩
  | Pow => exact ⟨_, op_pow, opl_pow⟩
  | LShift => exact ⟨_, op_shl, opl_shl⟩
  | RShift => exact ⟨_, op_shr, opl_shr⟩
  | BitAnd => exact ⟨_, op_and, opl_band⟩
  | _ => cases h
end

/-! comparisons -/
section
variable {K : PySem.W.Frag}
theorem ints_rep {F : Hp} : ∀ {vs : List V} {ds : List D} {ns : List Int}, RepL K F vs ds → allInt ds = some ns → vs = ns.map V.int
  | _, _, _, .nil, h => by cases h; rfl
  | _, d :: ds, ns, .cons r t, h => by
    cases d <;> first | (cases h; done) | skip
    rename_i i
    cases r
    have h : (allInt ds).map (i :: ·) = some ns := h
    cases e : allInt ds with
    | none => rw [e] at h; cases h
    | some ms => rw [e] at h; cases h; rw [ints_rep t e]; rfl
theorem opl_lt : OpL K (fun x y H Q => rI0 (fun i j => .bl (decide (i < j))) x y H Q ∨ rLtL K x y H Q) (fCmp (cmpV .Lt)) := by
  intro x y d1 d2 F H M Q Q' s rx ry h p
  obtain ⟨d, e, q⟩ := h
  cases rx with
  | int i =>
    cases ry <;> first | (cases e; done) | skip
    cases e
    exact .inl ⟨_, _, rfl, rfl, p.here s q (.bl _)⟩
  | @lst a xs ds h1 r1 =>
    cases ry with
    | @lst b ys es h2 r2 =>
      simp only [cmpV] at e
      cases e1 : allInt ds with
      | none => rw [e1] at e; cases e
      | some ns =>
        cases e2 : allInt es with
        | none => rw [e1, e2] at e; cases e
        | some ms =>
          rw [e1, e2] at e
          cases e
          rw [ints_rep r1 e1] at h1
          rw [ints_rep r2 e2] at h2
          exact .inr ⟨a, b, ns, ms, rfl, rfl, ex_l s.ex h1, ex_l s.ex h2, p.here s q (.bl _)⟩
    | _ => cases e
  | _ => cases ry <;> cases e
theorem opl_le : OpL K (rI0 fun i j => .bl (decide (i ≤ j))) (fCmp (cmpV .LtE)) := by
  intro x y d1 d2 F H M Q Q' s rx ry h p
  obtain ⟨d, e, q⟩ := h
  cases rx <;> first | (cases e; done) | skip
  cases ry <;> first | (cases e; done) | skip
  cases e
  exact ⟨_, _, rfl, rfl, p.here s q (.bl _)⟩
theorem opl_gt : OpL K (rI0 fun i j => .bl (decide (j < i))) (fCmp (cmpV .Gt)) := by
  intro x y d1 d2 F H M Q Q' s rx ry h p
  obtain ⟨d, e, q⟩ := h
  cases rx <;> first | (cases e; done) | skip
  cases ry <;> first | (cases e; done) | skip
  cases e
  exact ⟨_, _, rfl, rfl, p.here s q (.bl _)⟩
theorem opl_ge : OpL K (rI0 fun i j => .bl (decide (j ≤ i))) (fCmp (cmpV .GtE)) := by
  intro x y d1 d2 F H M Q Q' s rx ry h p
  obtain ⟨d, e, q⟩ := h
  cases rx <;> first | (cases e; done) | skip
  cases ry <;> first | (cases e; done) | skip
  cases e
  exact ⟨_, _, rfl, rfl, p.here s q (.bl _)⟩
theorem dec_V {α : Type} [DecidableEq α] {f : α → V} (hf : ∀ a b, f a = f b → a = b) (a b : α) : decide (f a = f b) = decide (a = b) := by
  by_cases h : a = b
  · subst h; simp
  · rw [decide_eq_false h, decide_eq_false fun z => h (hf _ _ z)]
/-- equality: scalars, or data of any depth -/
theorem eq_cases {F H : Hp} {M : Mo} (s : Sat K F H M) {x y : V} {a b : D} (rx : Rep K F x a) (ry : Rep K F y b) {k : Bool} (h : cmpEq a b = some k) :
    (scal x y = true ∧ decide (x = y) = k) ∨ ∃ d e, Dp K H x d ∧ Dp K H y e ∧ SeqAt.shaped d = true ∧ SeqAt.shaped e = true ∧ PyData.eqv d e = k := by
  have deep : (if (eqOk a && eqOk b) = true then some (PyData.eqv (toPy a) (toPy b)) else none) = some k → (scal x y = true ∧ decide (x = y) = k) ∨ ∃ d e, Dp K H x d ∧ Dp K H y e ∧ SeqAt.shaped d = true ∧ SeqAt.shaped e = true ∧ PyData.eqv d e = k := fun h => by
    split at h
    · rename_i hz
      obtain ⟨z1, z2⟩ := Bool.and_eq_true_iff.mp hz
      obtain ⟨p1, s1⟩ := Bool.and_eq_true_iff.mp z1
      obtain ⟨p2, s2⟩ := Bool.and_eq_true_iff.mp z2
      exact .inr ⟨_, _, rx.dp s.ex p1, ry.dp s.ex p2, s1, s2, Option.some.inj h⟩
    · cases h
  cases rx <;> cases ry <;> first
    | exact deep h
    | (refine .inl ⟨rfl, ?_⟩
       have h' := Option.some.inj h
       rw [← h']
       first | exact dec_V (fun _ _ z => V.int.inj z) _ _ | exact dec_V (fun _ _ z => V.bl.inj z) _ _ | exact dec_V (fun _ _ z => V.str.inj z) _ _ | exact decide_eq_true rfl | (exact decide_eq_false (fun z => nomatch z)))
theorem opl_eq : OpL K (fun x y H Q => rEq x y H Q ∨ rEqD K x y H Q) (fCmp (cmpV .Eq)) := by
  intro x y d1 d2 F H M Q Q' s rx ry h p
  obtain ⟨k, e, q⟩ := h
  rcases eq_cases s rx ry e with ⟨h1, h2⟩ | ⟨d, e, a1, a2, a3, a4, a5⟩
  · exact .inl ⟨h1, by rw [h2]; exact p.here s q (.bl _)⟩
  · exact .inr ⟨d, e, a1, a2, a3, a4, by rw [a5]; exact p.here s q (.bl _)⟩
theorem opl_ne : OpL K (fun x y H Q => rNe x y H Q ∨ rNeD K x y H Q) (fCmp (cmpV .NotEq)) := by
  intro x y d1 d2 F H M Q Q' s rx ry h p
  obtain ⟨k, e, q⟩ := h
  have e : (cmpEq d1 d2).map not = some k := e
  cases e1 : cmpEq d1 d2 with
  | none => rw [e1] at e; cases e
  | some k' =>
    rw [e1] at e; cases e
    rcases eq_cases s rx ry e1 with ⟨h1, h2⟩ | ⟨d, e, a1, a2, a3, a4, a5⟩
    · exact .inl ⟨h1, by rw [h2]; exact p.here s q (.bl _)⟩
    · exact .inr ⟨d, e, a1, a2, a3, a4, by rw [a5]; exact p.here s q (.bl _)⟩
theorem is_cases {F : Hp} {x y : V} {a b : D} (rx : Rep K F x a) (ry : Rep K F y b) {k : Bool} (h : cmpIs a b = some k) :
    (y = .non ∧ decide (x = .non) = k) ∨ ∃ i j : Bool, x = .bl i ∧ y = .bl j ∧ decide (i = j) = k := by
  cases rx <;> cases ry <;> first
    | (cases h; done)
    | exact .inr ⟨_, _, rfl, rfl, Option.some.inj h⟩
    | (refine .inl ⟨rfl, ?_⟩
       have h' := Option.some.inj h
       rw [← h']
       first | exact decide_eq_true rfl | exact decide_eq_false (fun z => nomatch z))
theorem opl_is : OpL K (fun x y H Q => (y = .non ∧ Q (.bl (decide (x = .non))) H) ∨ rIsB x y H Q) (fCmp (cmpV .Is)) := by
  intro x y d1 d2 F H M Q Q' s rx ry h p
  obtain ⟨k, e, q⟩ := h
  rcases is_cases rx ry e with ⟨h1, h2⟩ | ⟨i, j, h1, h2, h3⟩
  · exact .inl ⟨h1, by rw [h2]; exact p.here s q (.bl _)⟩
  · exact .inr ⟨i, j, h1, h2, by rw [h3]; exact p.here s q (.bl _)⟩
theorem opl_isnot : OpL K (fun x y H Q => (y = .non ∧ Q (.bl (!decide (x = .non))) H) ∨ rNotB x y H Q) (fCmp (cmpV .IsNot)) := by
  intro x y d1 d2 F H M Q Q' s rx ry h p
  obtain ⟨k, e, q⟩ := h
  have e : (cmpIs d1 d2).map not = some k := e
  cases e1 : cmpIs d1 d2 with
  | none => rw [e1] at e; cases e
  | some k' =>
    rw [e1] at e; cases e
    rcases is_cases rx ry e1 with ⟨h1, h2⟩ | ⟨i, j, h1, h2, h3⟩
    · exact .inl ⟨h1, by rw [h2]; exact p.here s q (.bl _)⟩
    · exact .inr ⟨i, j, h1, h2, by rw [h3]; exact p.here s q (.bl _)⟩
theorem cmpop_ok {X : Cx} (hu : X.A.units + 64 < cLine) {op : CmpOp} (h : supC op = true) : ∃ r, OpR X (compareOp op) r ∧ OpL X.K r (fCmp (cmpV op)) := by
  cases op with
  | Eq => exact ⟨_, op_eq.or (op_eqD hu), opl_eq⟩
  | NotEq => exact ⟨_, op_ne.or (op_neD hu), opl_ne⟩
  | Is => exact ⟨_, op_isN.or op_isBl, opl_is⟩
  | IsNot => exact ⟨_, op_notN.or op_notBl, opl_isnot⟩
  | Lt => exact ⟨_, op_lt.or (op_ltL (by omega)), opl_lt⟩
  | LtE => exact ⟨_, op_le, opl_le⟩
  | Gt => exact ⟨_, op_gt, opl_gt⟩
  | GtE => exact ⟨_, op_ge, opl_ge⟩
  | _ => cases h
/-- truth -/
theorem tru_rep {F H : Hp} {M : Mo} (s : Sat K F H M) {x : V} {d : D} (r : Rep K F x d) {k : Bool} (h : truD M d = some k) : TruV K x H k := by
  have emp : ∀ {xs : List V} {ds : List D}, RepL K F xs ds → (!ds.isEmpty) = !xs.isEmpty := fun r => by cases r <;> rfl
  cases r with
  | non => exact (Option.some.inj h).symm
  | bl b => exact (Option.some.inj h).symm
  | int i => exact (Option.some.inj h).symm
  | str y =>
    simp only [truD] at h
    split at h
    · rename_i hz
      exact ⟨szl hz, (Option.some.inj h).symm⟩
    · cases h
  | @tup a xs ds h1 r1 => exact .inr (.inl ⟨xs, ex_t s.ex h1, by rw [← Option.some.inj h]; exact emp r1⟩)
  | @lst a xs ds h1 r1 => exact .inl ⟨xs, ex_l s.ex h1, by rw [← Option.some.inj h]; exact emp r1⟩
  | ref a =>
    simp only [truD] at h
    cases e : M a with
    | none => rw [e] at h; cases h
    | some mo =>
      rw [e] at h
      obtain ⟨_, ho, h1, r1⟩ := s.m a mo e
      cases mo with
      | lst ds =>
        obtain ⟨xs, rfl, r2⟩ := r1
        exact .inl ⟨xs, SqL.of h1, by rw [← Option.some.inj h]; exact emp r2⟩
      | dK kvs =>
        obtain ⟨ws, rfl, hk, r2⟩ := r1
        refine .inr (.inr ⟨ws, h1, ?_⟩)
        rw [← Option.some.inj h]
        cases ws <;> cases kvs <;> simp_all
      | ins C fs => cases h
      | tbl => cases h
      | _ => cases h
  | ty n => cases h
  | dic _ _ _ => cases h
/-- a list or tuple, by its items -/
theorem seq_rep {F H : Hp} {M : Mo} (s : Sat K F H M) {x : V} {d : D} (r : Rep K F x d) {ds : List D} (h : seqV M d = some ds) : ∃ a xs, x = .ref a ∧ RepL K F xs ds ∧ (SqL K H a xs ∨ (SqT K H a xs ∧ d = .tup ds)) := by
  cases r with
  | @tup a xs es h1 r1 => cases h; exact ⟨a, xs, rfl, r1, .inr ⟨ex_t s.ex h1, rfl⟩⟩
  | @lst a xs es h1 r1 => cases h; exact ⟨a, xs, rfl, r1, .inl (ex_l s.ex h1)⟩
  | ref a =>
    simp only [seqV] at h
    cases e : M a with
    | none => rw [e] at h; cases h
    | some mo =>
      rw [e] at h
      obtain ⟨_, ho, h1, r1⟩ := s.m a mo e
      cases mo with
      | lst es =>
        cases h
        obtain ⟨xs, rfl, r2⟩ := r1
        exact ⟨a, xs, rfl, r2, .inl (SqL.of h1)⟩
      | dK kvs => cases h
      | ins C fs => cases h
      | tbl => cases h
      | _ => cases h
  | _ => cases h
theorem at_rep {F : Hp} {xs : List V} {ds : List D} (r : RepL K F xs ds) {i : Int} {d : D} (h : atI ds i = some d) : ∃ v, atI xs i = some v ∧ Rep K F v d := by
  unfold atI at h ⊢
  rw [← r.length] at h
  cases e : ixN xs.length i with
  | none => rw [e] at h; cases h
  | some j =>
    rw [e] at h
    obtain ⟨v, h1, h2⟩ := r.get (show ds[j]? = some d from h)
    exact ⟨v, h1, h2⟩
/-! ### dicts by data -/
theorem valV_rep {F : Hp} {κ : Type} [DecidableEq κ] {k : κ} : ∀ {ws : List (κ × V)} {kvs : List (κ × D)}, ws.map (·.1) = kvs.map (·.1) → RepL K F (ws.map (·.2)) (kvs.map (·.2)) → (valV ws k = none ∧ valD kvs k = none) ∨ ∃ v d, valV ws k = some v ∧ valD kvs k = some d ∧ Rep K F v d
  | [], [], _, _ => .inl ⟨rfl, rfl⟩
  | [], _ :: _, h, _ => by simp at h
  | _ :: _, [], h, _ => by simp at h
  | (a, v) :: ws, (b, d) :: kvs, h, r => by
    simp only [List.map_cons, List.cons.injEq] at h
    obtain ⟨h1, h2⟩ := h
    subst h1
    rw [List.map_cons, List.map_cons] at r
    cases r with
    | cons r1 r2 =>
      by_cases e : a = k
      · exact .inr ⟨v, d, valV_pos e, by simp [valD, List.find?_cons, e], r1⟩
      · rw [valV_neg (p := (a, v)) e, show valD ((a, d) :: kvs) k = valD kvs k by simp [valD, List.find?_cons, e]]
        exact valV_rep h2 r2
theorem putK_rep {F : Hp} {κ : Type} [DecidableEq κ] {k : κ} {v : V} {d : D} {ws : List (κ × V)} {kvs : List (κ × D)} (h : ws.map (·.1) = kvs.map (·.1)) (r : RepL K F (ws.map (·.2)) (kvs.map (·.2))) (rv : Rep K F v d) :
    (putK ws k v).map (·.1) = (putD kvs k d).map (·.1) ∧ RepL K F ((putK ws k v).map (·.2)) ((putD kvs k d).map (·.2)) := by
  have ha : (ws.any fun kv => decide (kv.1 = k)) = (kvs.any fun kv => decide (kv.1 = k)) := by
    have e1 : (ws.any fun kv => decide (kv.1 = k)) = (ws.map (·.1)).any fun x => decide (x = k) := by rw [List.any_map]; rfl
    have e2 : (kvs.any fun kv => decide (kv.1 = k)) = (kvs.map (·.1)).any fun x => decide (x = k) := by rw [List.any_map]; rfl
    rw [e1, e2, h]
  unfold putK putD
  rw [ha]
  split
  · clear ha
    induction ws generalizing kvs with
    | nil => cases kvs with
      | nil => exact ⟨rfl, .nil⟩
      | cons y kvs => simp at h
    | cons x ws ih => cases kvs with
      | nil => simp at h
      | cons y kvs =>
        simp only [List.map_cons, List.cons.injEq] at h
        rw [List.map_cons, List.map_cons] at r
        cases r with
        | cons r1 r2 =>
          rename_i hany
          obtain ⟨i1, i2⟩ : (List.map (fun kv => if kv.1 = k then (kv.1, v) else kv) ws).map (·.1) = (List.map (fun kv => if kv.1 = k then (kv.1, d) else kv) kvs).map (·.1) ∧ RepL K F ((List.map (fun kv => if kv.1 = k then (kv.1, v) else kv) ws).map (·.2)) ((List.map (fun kv => if kv.1 = k then (kv.1, d) else kv) kvs).map (·.2)) := by
            clear hany r1
            obtain ⟨_, h⟩ := h
            clear ih
            induction ws generalizing kvs with
            | nil => cases kvs with
              | nil => exact ⟨rfl, .nil⟩
              | cons y kvs => simp at h
            | cons x ws ih => cases kvs with
              | nil => simp at h
              | cons y kvs =>
                simp only [List.map_cons, List.cons.injEq] at h
                rw [List.map_cons, List.map_cons] at r2
                cases r2 with
                | cons r1 r2 =>
                  obtain ⟨j1, j2⟩ := ih (kvs := kvs) r2 h.2
                  by_cases e : x.1 = k
                  · have e' : y.1 = k := h.1 ▸ e
                    simp only [List.map_cons, if_pos e, if_pos e', h.1]
                    exact ⟨by rw [j1], .cons rv j2⟩
                  · have e' : ¬ y.1 = k := h.1 ▸ e
                    simp only [List.map_cons, if_neg e, if_neg e', h.1]
                    exact ⟨by rw [j1], .cons r1 j2⟩
          by_cases e : x.1 = k
          · have e' : y.1 = k := h.1 ▸ e
            simp only [List.map_cons, if_pos e, if_pos e', h.1]
            exact ⟨by rw [i1], .cons rv i2⟩
          · have e' : ¬ y.1 = k := h.1 ▸ e
            simp only [List.map_cons, if_neg e, if_neg e', h.1]
            exact ⟨by rw [i1], .cons r1 i2⟩
  · rw [List.map_append, List.map_append, List.map_append, List.map_append, h]
    exact ⟨rfl, r.append (.cons rv .nil)⟩
end
/-! ### reading -/
def rIxD : R2 := fun x y H Q => ∃ a v, x = .ref a ∧ DGet H a y (some v) ∧ Q v H
theorem ix_dict {X : Cx} (hu : X.A.units + 1 < cLine) : IxR X rIxD := by
  intro value slice pins s σ H x y v u Q I rx ry h hs
  obtain ⟨a, z, rfl, g, q⟩ := h
  obtain rfl : v = Value.ref a := rx
  have hT := dict_typeIs I g
  unfold subscriptTail
  refine wpAny_bind ?_
  rw [getitemInPython_of_ne hT.not_modules]
  refine wpAny_bind (wpAny_specialOf hT PySem.F.slot_dict_getitem.lookup ?_)
  have fin : wpAny (model X.prog X.w) X.A (subscripted slice false (.ref a) u) (fun r s₃ => wpAny (model X.prog X.w) X.A (letTemporaryGo value (.ref a) r >>= fun _ => pure r) (EP X pins σ Q) X.xe s₃) X.xe s := by
    rw [hs]
    exact wpAny_operating (wpAny_mono (d_getItem hu I g ry fun w' s3 I3 rw' => (⟨z, H, I3, rw', q⟩ : EP X pins σ Q w' s3)) (fun r s₃ h₃ => wpAny_bind (wpAny_letTemporaryGo (wpAny_pure h₃))) fun _ _ x => x)
  first
    | exact wpAny_pure (wpAny_bind fin)
    | exact wpAny_bind (wpAny_pure (wpAny_bind fin))
    | exact wpAny_bind fin
section
variable {K : PySem.W.Frag}
/-- a[i] -/
theorem opl_ix : OpL K (fun x y H Q => rIx K x y H Q ∨ rIxD x y H Q) (fun a b M Q => ∃ d, ixV M a b = some d ∧ Q d M) := by
  intro x y d1 d2 F H M Q Q' s rx ry h p
  obtain ⟨d, e, q⟩ := h
  have dict : ∀ {a : Addr} {kvs : List (Key × D)} {k : Key}, M a = some (.dK kvs) → valD kvs k = some d → rIxD (.ref a) (kV k) H Q := fun {a kvs k} e2 e => by
    obtain ⟨_, ho, h1, ws, rfl, hk, r2⟩ := s.m a _ e2
    rcases valV_rep (k := k) hk r2 with ⟨_, h2⟩ | ⟨v, d', h2, h3, rv⟩
    · rw [h2] at e; cases e
    · rw [h3] at e; cases e
      exact ⟨a, v, rfl, .inl ⟨ws, k, .inl h1, rfl, h2.symm⟩, p.here s q rv⟩
  cases ry with
  | int i =>
    cases rx with
    | @tup a xs ds h1 r1 =>
      obtain ⟨v, hv, rv⟩ := at_rep r1 (show atI ds i = some d from e)
      exact .inl (.inr (.inl ⟨a, xs, i, v, rfl, rfl, ex_t s.ex h1, hv, p.here s q rv⟩))
    | @lst a xs ds h1 r1 =>
      obtain ⟨v, hv, rv⟩ := at_rep r1 (show atI ds i = some d from e)
      exact .inl (.inl ⟨a, xs, i, v, rfl, rfl, ex_l s.ex h1, hv, p.here s q rv⟩)
    | str z =>
      simp only [ixV] at e
      split at e
      · rename_i hz
        cases e1 : atI z.cps.toList i with
        | none => rw [e1] at e; cases e
        | some c =>
          rw [e1] at e; cases e
          exact .inl (.inr (.inr ⟨z, i, c, rfl, rfl, szl hz, e1, p.here s q (.str _)⟩))
      · cases e
    | ref a =>
      simp only [ixV] at e
      cases e2 : M a with
      | none => rw [e2] at e; cases e
      | some mo =>
        rw [e2] at e
        cases mo with
        | lst es =>
          obtain ⟨_, ho, h1, xs, rfl, r2⟩ := s.m a _ e2
          obtain ⟨v, hv, rv⟩ := at_rep r2 (show atI es i = some d from e)
          exact .inl (.inl ⟨a, xs, i, v, rfl, rfl, SqL.of h1, hv, p.here s q rv⟩)
        | dK kvs => exact .inr (dict (k := .inl i) e2 e)
        | ins C fs => cases e
        | tbl => cases e
        | _ => cases e
    | _ => cases e
  | str z =>
    cases rx with
    | ref a =>
      simp only [ixV] at e
      cases e2 : M a with
      | none => rw [e2] at e; cases e
      | some mo =>
        rw [e2] at e
        cases mo with
        | lst es => cases e
        | dK kvs => exact .inr (dict (k := .inr z) e2 e)
        | ins C fs => cases e
        | tbl => cases e
        | _ => cases e
    | _ => cases e
  | _ => cases rx <;> cases e

/-! ### parts -/
theorem cut_rep {F : Hp} {xs : List V} {ds : List D} (r : RepL K F xs ds) (lo hi : Option Int) : RepL K F (cutV xs lo hi) (cutD ds lo hi) := by
  unfold cutV cutD
  rw [r.length]
  exact (r.drop _).take _
def rSlAny (K : PySem.W.Frag) : V → Option Int → Option Int → Hp → VK → Prop := fun x lo hi H Q => rSlS x lo hi H Q ∨ (rSlA K x lo hi H Q ∨ rSlL K x lo hi H Q)
theorem sl_any {X : Cx} : SlR X (rSlAny X.K) := sl_str.or (sl_tupA.or sl_list)
theorem sll {F H : Hp} {M : Mo} {x : V} {d e : D} {lo hi : Option Int} {Q : VK} {Q' : QE} (s : Sat K F H M) (rx : Rep K F x d) (h : slV M d lo hi = some e) (q : Q' e M) (p : PV K F M H Q Q') : rSlAny K x lo hi H Q := by
  cases rx with
  | str z =>
    simp only [slV] at h
    split at h
    · rename_i hz; cases h
      exact .inl ⟨z, rfl, szl hz, p.here s q (.str _)⟩
    · cases h
  | @tup a xs ds h1 r1 =>
    cases h
    refine .inr (.inl ⟨a, xs, rfl, ex_t s.ex h1, fun hw => ?_, fun _ c hc => p.fresh s q hc (new_tup s hc (cut_rep r1 lo hi))⟩)
    have hd : cutD ds lo hi = ds := by
      unfold cutD
      rw [← r1.length, hw.1, hw.2, List.drop_zero, Nat.sub_zero, r1.length, List.take_length]
    rw [hd] at q
    exact p.here s q (.tup h1 r1)
  | @lst a xs ds h1 r1 =>
    cases h
    exact .inr (.inr ⟨a, xs, rfl, ex_l s.ex h1, fun c hc => p.fresh s q hc (new_lst s hc (cut_rep r1 lo hi))⟩)
  | ref a =>
    simp only [slV] at h
    cases e2 : M a with
    | none => rw [e2] at h; cases h
    | some mo =>
      rw [e2] at h
      cases mo with
      | lst es =>
        cases h
        obtain ⟨_, ho, h1, xs, rfl, r2⟩ := s.m a _ e2
        exact .inr (.inr ⟨a, xs, rfl, SqL.of h1, fun c hc => p.fresh s q hc (new_lst s hc (cut_rep r2 lo hi))⟩)
      | dK kvs => cases h
      | ins C fs => cases h
      | tbl => cases h
      | _ => cases h
  | _ => cases h

/-! ### in -/
theorem flat_rep {F : Hp} {x : V} {d : D} (r : Rep K F x d) (h : flatD d = true) : flatV x = true := by
  cases r <;> first | rfl | cases h
theorem flats_rep {F : Hp} : ∀ {xs : List V} {ds : List D}, RepL K F xs ds → ds.all flatD = true → xs.all flatV = true
  | _, _, .nil, _ => rfl
  | _, _, .cons r t, h => by
    obtain ⟨h1, h2⟩ := Bool.and_eq_true_iff.mp (by simpa using h : (flatD _ && List.all _ flatD) = true)
    simp only [List.all_cons, flat_rep r h1, flats_rep t h2, Bool.and_true]
theorem eqFl_rep {F : Hp} {x y : V} {d e : D} (r : Rep K F x d) (t : Rep K F y e) (h : flatD d = true) (h2 : flatD e = true) : eqV x y = eqFl d e := by
  cases r <;> first | (cases h; done) | (cases t <;> first | rfl | (cases h2; done))
theorem inV_rep {F : Hp} {x : V} {d : D} (r : Rep K F x d) (h : flatD d = true) : ∀ {xs : List V} {ds : List D}, RepL K F xs ds → ds.all flatD = true → L2.inV x xs = ds.any fun e => eqFl e d
  | _, _, .nil, _ => rfl
  | _, _, .cons r1 t, h1 => by
    obtain ⟨a, b⟩ := Bool.and_eq_true_iff.mp (by simpa using h1 : (flatD _ && List.all _ flatD) = true)
    simp only [L2.inV, List.any_cons] at *
    rw [eqFl_rep r1 r a h]
    have := inV_rep r h t b
    simp only [L2.inV] at this
    rw [this]
def rInAny (K : PySem.W.Frag) (neg : Bool) : R2 := fun x y H Q => (∃ i j, x = .str i ∧ y = .str j ∧ Q (.bl (if neg then !(!(Builtin.Str.occurrences j i 0 j.length 1).isEmpty) else !(Builtin.Str.occurrences j i 0 j.length 1).isEmpty)) H) ∨ rIn K neg x y H Q ∨ ∃ a o, y = .ref a ∧ DGet H a x o ∧ Q (.bl (if neg then !o.isSome else o.isSome)) H
theorem op_inAny {X : Cx} (hu : X.A.units + 1 < cLine) : OpR X (compareOp .In) (rInAny X.K false) := by
  refine OpR.or op_in_str (OpR.or op_in_seq ?_)
  intro pins s σ H x y v u Q I rx ry h
  obtain ⟨a, o, rfl, g, q⟩ := h
  obtain rfl : u = Value.ref a := ry
  exact d_in hu I g rx fun s3 I3 => ⟨.bl o.isSome, H, I3, rfl, q⟩
theorem op_notInAny {X : Cx} (hu : X.A.units + 1 < cLine) : OpR X (compareOp .NotIn) (rInAny X.K true) := by
  refine OpR.or ?_ (OpR.or op_notIn_seq ?_)
  · intro pins s σ H x y v u Q I rx ry h
    obtain ⟨i, j, e1, e2, q⟩ := h
    refine op_notIn_str pins s σ H x y v u Q I rx ry ⟨i, j, e1, e2, ?_⟩
    simpa using q
  · intro pins s σ H x y v u Q I rx ry h
    obtain ⟨a, o, rfl, g, q⟩ := h
    obtain rfl : u = Value.ref a := ry
    exact d_notIn hu I g rx fun s3 I3 => ⟨.bl (!o.isSome), H, I3, rfl, q⟩
theorem key_rep {F : Hp} {x : V} {d : D} {k : Key} (r : Rep K F x d) (h : keyD d = some k) : x = kV k := by
  cases r <;> first | (cases h; done) | (cases h; rfl)
theorem opl_in {neg : Bool} : OpL K (rInAny K neg) (fun a b M Q => ∃ k, Vp.inV M a b = some k ∧ Q (.bl (if neg then !k else k)) M) := by
  intro x y d1 d2 F H M Q Q' s rx ry h p
  obtain ⟨k, e, q⟩ := h
  have sq : ∀ {a : Addr} {xs : List V} {ds : List D}, (SqL K H a xs ∨ SqT K H a xs) → RepL K F xs ds → inSq d1 ds = some k → rInAny K neg x (.ref a) H Q := fun {a xs ds} h1 r1 e => by
    unfold inSq at e
    split at e
    · rename_i hz
      obtain ⟨z1, z2⟩ := Bool.and_eq_true_iff.mp hz
      cases e
      refine .inr (.inl ⟨a, xs, rfl, h1, flat_rep rx z1, flats_rep r1 z2, ?_⟩)
      rw [inV_rep rx z1 r1 z2]
      exact p.here s q (.bl _)
    · cases e
  cases ry with
  | str j =>
    cases rx with
    | str i =>
      cases e
      refine .inl ⟨i, j, rfl, rfl, p.here s q (.bl _)⟩
    | _ => cases e
  | @tup a xs ds h1 r1 => exact sq (.inr (ex_t s.ex h1)) r1 (by cases d1 <;> exact e)
  | @lst a xs ds h1 r1 => exact sq (.inl (ex_l s.ex h1)) r1 (by cases d1 <;> exact e)
  | ref a =>
    have e : (match M a with | some (.lst ds) => inSq d1 ds | some (.dK kvs) => (keyD d1).map fun k => (valD kvs k).isSome | _ => none) = some k := by cases d1 <;> exact e
    cases e2 : M a with
    | none => rw [e2] at e; cases e
    | some mo =>
      rw [e2] at e
      cases mo with
      | lst es =>
        obtain ⟨_, ho, h1, xs, rfl, r2⟩ := s.m a _ e2
        exact sq (.inl (SqL.of h1)) r2 e
      | dK kvs =>
        obtain ⟨_, ho, h1, ws, rfl, hk, r2⟩ := s.m a _ e2
        have e : ((keyD d1).map fun k => (valD kvs k).isSome) = some k := e
        cases e3 : keyD d1 with
        | none => rw [e3] at e; cases e
        | some kk =>
          rw [e3] at e; cases e
          refine .inr (.inr ⟨a, valV ws kk, rfl, .inl ⟨ws, kk, .inl h1, key_rep rx e3, rfl⟩, ?_⟩)
          have hs : (valV ws kk).isSome = (valD kvs kk).isSome := by
            rcases valV_rep (k := kk) hk r2 with ⟨h2, h3⟩ | ⟨v, d', h2, h3, _⟩ <;> rw [h2, h3] <;> rfl
          rw [hs]
          exact p.here s q (.bl _)
      | ins C fs => cases e
      | tbl => cases e
      | _ => cases e
  | _ => cases rx <;> cases e

/-! ### storing -/
def rSetAny : V → V → V → Hp → (Hp → Prop) → Prop := fun o i v H Q => rSetL o i v H Q ∨ ∃ a H4, o = .ref a ∧ DPut H a i v H4 ∧ Q H4
theorem set_any {X : Cx} (hu : X.A.units + 1 < cLine) : PSet X rSetAny := by
  intro pins s σ H o i v ov iv u Q I ro ri rv h
  rcases h with h | ⟨a, H4, rfl, g, q⟩
  · exact set_list pins s σ H o i v ov iv u Q I ro ri rv h
  · obtain rfl : ov = Value.ref a := ro
    exact d_setItem hu I g ri rv fun s4 I4 => ⟨H4, I4, q⟩
theorem setl {F H : Hp} {M : Mo} {y v : V} {k d : D} {p : Addr} {mo : MO} {Q : Hp → Prop} (s : Sat K F H M) (ry : Rep K F y k) (rv : Rep K F v d) (h : setV (M p) k d = some mo) (hq : ∀ F' H', Step K F M H F' (updM M p mo) H' → Q H') : rSetAny (.ref p) y v H Q := by
  cases e : M p with
  | none => rw [e] at h; cases k <;> cases h
  | some m0 =>
    rw [e] at h
    have dict : ∀ {kvs : List (Key × D)} {kk : Key}, m0 = .dK kvs → y = kV kk → (if kvs.length < 16777216 then some (MO.dK (putD kvs kk d)) else none) = some mo → rSetAny (.ref p) y v H Q := fun {kvs kk} e1 e2 h' => by
      subst e1
      clear h
      split at h'
      · rename_i hz
        cases h'
        obtain ⟨_, ho, h1, ws, rfl, hk, r2⟩ := s.m p _ e
        obtain ⟨k1, k2⟩ := putK_rep (k := kk) hk r2 rv
        have hl : ws.length < sizeLine := by
          have := congrArg List.length hk
          rw [List.length_map, List.length_map] at this
          rw [this, sizeLine_eq]; exact hz
        exact .inr ⟨p, _, rfl, .inl ⟨ws, kk, h1, e2, hl, rfl⟩, hq _ _ (s.write e (o := .dK (putK ws kk v)) ⟨_, rfl, k1, k2⟩)⟩
      · cases h'
    cases ry with
    | int n =>
      cases m0 with
      | lst ds =>
        have h : ((ixN ds.length n).map fun j => MO.lst (ds.set j d)) = some mo := h
        cases e1 : ixN ds.length n with
        | none => rw [e1] at h; cases h
        | some j =>
          rw [e1] at h; cases h
          obtain ⟨_, ho, h1, us, rfl, r2⟩ := s.m p _ e
          exact .inl ⟨p, us, n, j, rfl, rfl, h1, by rw [r2.length]; exact e1, hq _ _ (s.write e (o := .lst (us.set j v)) ⟨_, rfl, r2.set j rv⟩)⟩
      | dK kvs => exact dict (kk := .inl n) rfl rfl h
      | ins C fs => cases h
      | tbl => cases h
      | _ => cases h
    | str x =>
      cases m0 with
      | lst ds => cases h
      | dK kvs => exact dict (kk := .inr x) rfl rfl h
      | ins C fs => cases h
      | tbl => cases h
      | _ => cases h
    | _ => cases m0 <;> cases h
end
end Vp
namespace Vp
open PySem PySem.Spec PyProof.Rows L2

/-! ### built-in functions by data -/
def CallL (K : PySem.W.Frag) (r : List V → Hp → VK → Prop) (f : List D → Mo → QE → Prop) : Prop := ∀ (vs : List V) (ds : List D) (F H : Hp) (M : Mo) (Q : VK) (Q' : QE), Sat K F H M → RepL K F vs ds → f ds M Q' → PV K F M H Q Q' → r vs H Q
section
variable {K : PySem.W.Frag} {F H : Hp} {M : Mo} {Q : VK} {Q' : QE}
theorem RepL.one {vs : List V} {d : D} (r : RepL K F vs [d]) : ∃ v, vs = [v] ∧ Rep K F v d := by
  cases r with
  | cons h t => cases t; exact ⟨_, rfl, h⟩
theorem RepL.two {vs : List V} {d e : D} (r : RepL K F vs [d, e]) : ∃ v w, vs = [v, w] ∧ Rep K F v d ∧ Rep K F w e := by
  cases r with
  | cons h t =>
    obtain ⟨w, rfl, h2⟩ := RepL.one t
    exact ⟨_, _, rfl, h, h2⟩
theorem bi_wp {b : Bi} {ds : List D} (h : b.wp ds M Q') (hb : b ≠ .list true) (hd : b ≠ .dict := by decide) : ∃ d, b.val M ds = some d ∧ Q' d M := by
  cases b with
  | list m =>
    cases m with
    | true => exact absurd rfl hb
    | false => exact h
  | dict => exact absurd rfl hd
  | _ => exact h
theorem abs_inv {ds : List D} {d : D} (h : Bi.val M .abs ds = some d) : ∃ i, ds = [.int i] ∧ d = .int (if i < 0 then -i else i) := by
  rcases ds with _ | ⟨x, _ | ⟨y, r⟩⟩
  · cases h
  · cases x <;> first | (cases h; done) | exact ⟨_, rfl, (Option.some.inj h).symm⟩
  · cases x <;> cases h
theorem max_inv {ds : List D} {d : D} (h : Bi.val M .max ds = some d) : (∃ i j, ds = [.int i, .int j] ∧ d = .int (if j > i then j else i)) ∨ ∃ e xs ns m, ds = [e] ∧ seqL' M e = some xs ∧ allInt xs = some ns ∧ ns.max? = some m ∧ d = .int m := by
  rcases ds with _ | ⟨x, _ | ⟨y, _ | ⟨z, r⟩⟩⟩
  · cases h
  · right
    have h : ((seqL' M x).bind fun ds => (allInt ds).bind fun ns => ns.max?.map D.int) = some d := by cases x <;> exact h
    cases e : seqL' M x with
    | none => rw [e] at h; cases h
    | some xs =>
      rw [e] at h
      have h : ((allInt xs).bind fun ns => ns.max?.map D.int) = some d := h
      cases e2 : allInt xs with
      | none => rw [e2] at h; cases h
      | some ns =>
        rw [e2] at h
        have h : ns.max?.map D.int = some d := h
        cases e3 : ns.max? with
        | none => rw [e3] at h; cases h
        | some m => rw [e3] at h; exact ⟨x, xs, ns, m, rfl, e, e2, e3, (Option.some.inj h).symm⟩
  · left
    cases x <;> cases y <;> first | (cases h; done) | exact ⟨_, _, rfl, (Option.some.inj h).symm⟩
  · cases x <;> cases y <;> cases h
theorem min_inv {ds : List D} {d : D} (h : Bi.val M .min ds = some d) : ∃ i j, ds = [.int i, .int j] ∧ d = .int (if j < i then j else i) := by
  rcases ds with _ | ⟨x, _ | ⟨y, _ | ⟨z, r⟩⟩⟩
  · cases h
  · cases x <;> cases h
  · cases x <;> cases y <;> first | (cases h; done) | exact ⟨_, _, rfl, (Option.some.inj h).symm⟩
  · cases x <;> cases y <;> cases h
theorem int_inv {ds : List D} {d : D} (h : Bi.val M .int ds = some d) : (∃ i, ds = [.int i] ∧ d = .int i) ∨ ∃ k, ds = [.bl k] ∧ d = .int (if k then 1 else 0) := by
  rcases ds with _ | ⟨x, _ | ⟨y, r⟩⟩
  · cases h
  · cases x <;> first | (cases h; done) | exact .inl ⟨_, rfl, (Option.some.inj h).symm⟩ | exact .inr ⟨_, rfl, (Option.some.inj h).symm⟩
  · cases x <;> cases h
theorem len_inv {ds : List D} {d : D} (h : Bi.val M .len ds = some d) : (∃ x, ds = [.str x] ∧ x.length ≤ 16777216 ∧ d = .int x.length) ∨ ∃ e xs, ds = [e] ∧ seqV M e = some xs ∧ d = .int xs.length := by
  rcases ds with _ | ⟨x, _ | ⟨y, r⟩⟩
  · cases h
  · have gen : ((seqV M x).map fun ds => D.int ds.length) = some d → ∃ e xs, [x] = [e] ∧ seqV M e = some xs ∧ d = .int xs.length := fun h => by
      cases e : seqV M x with
      | none => rw [e] at h; cases h
      | some xs => rw [e] at h; exact ⟨x, xs, rfl, e, (Option.some.inj h).symm⟩
    cases x <;> first
      | exact .inr (gen h)
      | (simp only [Bi.val] at h
         split at h
         · rename_i hz; exact .inl ⟨_, rfl, hz, (Option.some.inj h).symm⟩
         · cases h)
  · cases x <;> cases h
theorem tuple_inv {ds : List D} {d : D} (h : Bi.val M .tuple ds = some d) : ∃ e xs, ds = [e] ∧ seqV M e = some xs ∧ d = .tup xs := by
  rcases ds with _ | ⟨x, _ | ⟨y, r⟩⟩
  · cases h
  · have h : (seqV M x).map D.tup = some d := h
    cases e : seqV M x with
    | none => rw [e] at h; cases h
    | some xs => rw [e] at h; exact ⟨x, xs, rfl, e, (Option.some.inj h).symm⟩
  · cases x <;> cases h
theorem list_inv {ds : List D} {d : D} (h : Bi.val M (.list false) ds = some d) : ∃ e xs, ds = [e] ∧ seqV M e = some xs ∧ d = .lst xs := by
  rcases ds with _ | ⟨x, _ | ⟨y, r⟩⟩
  · cases h
  · have h : (seqV M x).map D.lst = some d := h
    cases e : seqV M x with
    | none => rw [e] at h; cases h
    | some xs => rw [e] at h; exact ⟨x, xs, rfl, e, (Option.some.inj h).symm⟩
  · cases x <;> cases h
theorem isinst_inv {ds : List D} {d : D} (h : Bi.val M .isinst ds = some d) : ∃ e T b, ds = [e, .ty T] ∧ instI M e T = some b ∧ d = .bl b := by
  rcases ds with _ | ⟨x, _ | ⟨y, _ | ⟨z, r⟩⟩⟩
  · cases h
  · cases x <;> cases h
  · cases y <;> first
      | (cases x <;> cases h; done)
      | (rename_i T
         have h : (instI M x T).map D.bl = some d := by cases x <;> exact h
         cases e : instI M x T with
         | none => rw [e] at h; cases h
         | some b => rw [e] at h; exact ⟨x, T, b, rfl, e, (Option.some.inj h).symm⟩)
  · cases y <;> cases x <;> cases h
theorem str_inv {ds : List D} {d : D} (h : Bi.val M .str ds = some d) : ∃ i, ds = [.int i] ∧ i.natAbs.log2 < 1920 ∧ d = .str (toString i) := by
  rcases ds with _ | ⟨x, _ | ⟨y, r⟩⟩
  · cases h
  · cases x <;> first
      | (cases h; done)
      | (simp only [Bi.val] at h
         split at h
         · rename_i hz; exact ⟨_, rfl, hz, (Option.some.inj h).symm⟩
         · cases h)
  · cases x <;> cases h
theorem sum_inv {ds : List D} {d : D} (h : Bi.val M .sum ds = some d) : ∃ e xs ns, ds = [e] ∧ seqL' M e = some xs ∧ allInt xs = some ns ∧ d = .int ns.sum := by
  rcases ds with _ | ⟨x, _ | ⟨y, r⟩⟩
  · cases h
  · have h : ((seqL' M x).bind fun ds => (allInt ds).map fun ns => D.int ns.sum) = some d := h
    cases e : seqL' M x with
    | none => rw [e] at h; cases h
    | some xs =>
      rw [e] at h
      have h : ((allInt xs).map fun ns => D.int ns.sum) = some d := h
      cases e2 : allInt xs with
      | none => rw [e2] at h; cases h
      | some ns => rw [e2] at h; exact ⟨x, xs, ns, rfl, e, e2, (Option.some.inj h).symm⟩
  · cases x <;> cases h
theorem bls_inv {b : Bi} {f : List Bool → Bool} (hb : ∀ x, Bi.val M b [x] = (seqL' M x).bind fun ds => (allBl ds).map fun bs => .bl (f bs)) (h0 : Bi.val M b [] = none) (h2 : ∀ x y r, Bi.val M b (x :: y :: r) = none) {ds : List D} {d : D} (h : Bi.val M b ds = some d) :
    ∃ e xs bs, ds = [e] ∧ seqL' M e = some xs ∧ allBl xs = some bs ∧ d = .bl (f bs) := by
  rcases ds with _ | ⟨x, _ | ⟨y, r⟩⟩
  · rw [h0] at h; cases h
  · rw [hb] at h
    cases e : seqL' M x with
    | none => rw [e] at h; cases h
    | some xs =>
      rw [e] at h
      have h : ((allBl xs).map fun bs => D.bl (f bs)) = some d := h
      cases e2 : allBl xs with
      | none => rw [e2] at h; cases h
      | some ns => rw [e2] at h; exact ⟨x, xs, ns, rfl, e, e2, (Option.some.inj h).symm⟩
  · rw [h2] at h; cases h
end
section
variable {K : PySem.W.Frag}
theorem bls_rep {F : Hp} : ∀ {vs : List V} {ds : List D} {ns : List Bool}, RepL K F vs ds → allBl ds = some ns → vs = ns.map V.bl
  | _, _, _, .nil, h => by cases h; rfl
  | _, d :: ds, ns, .cons r t, h => by
    cases d <;> first | (cases h; done) | skip
    rename_i i
    cases r
    have h : (allBl ds).map (i :: ·) = some ns := h
    cases e : allBl ds with
    | none => rw [e] at h; cases h
    | some ms => rw [e] at h; cases h; rw [bls_rep t e]; rfl
theorem lst_rep {F H : Hp} {M : Mo} (s : Sat K F H M) {x : V} {d : D} (r : Rep K F x d) {ds : List D} (h : seqL' M d = some ds) : ∃ a xs, x = .ref a ∧ RepL K F xs ds ∧ SqL K H a xs := by
  cases r with
  | @lst a xs es h1 r1 => cases h; exact ⟨a, xs, rfl, r1, ex_l s.ex h1⟩
  | ref a =>
    simp only [seqL'] at h
    cases e : M a with
    | none => rw [e] at h; cases h
    | some mo =>
      rw [e] at h
      obtain ⟨_, ho, h1, r1⟩ := s.m a mo e
      cases mo with
      | lst es =>
        cases h
        obtain ⟨xs, rfl, r2⟩ := r1
        exact ⟨a, xs, rfl, r2, SqL.of h1⟩
      | dK kvs => cases h
      | ins C fs => cases h
      | tbl => cases h
      | _ => cases h
  | _ => cases h
theorem cl_str : CallL K (fun xs H Q => ∃ i, xs = [.int i] ∧ i.natAbs.log2 < 1920 ∧ Q (.str (toString i)) H) Bi.str.wp := by
  intro vs ds F H M Q Q' s r h p
  obtain ⟨d, e, q⟩ := bi_wp h (by decide)
  obtain ⟨i, rfl, hz, rfl⟩ := str_inv e
  obtain ⟨v, rfl, rv⟩ := r.one
  cases rv
  exact ⟨i, rfl, hz, p.here s q (.str _)⟩
theorem cl_sum : CallL K (rSum K) Bi.sum.wp := by
  intro vs ds F H M Q Q' s r h p
  obtain ⟨d, e, q⟩ := bi_wp h (by decide)
  obtain ⟨e, xs, ns, rfl, h1, h2, rfl⟩ := sum_inv e
  obtain ⟨v, rfl, rv⟩ := r.one
  obtain ⟨a, ys, rfl, r2, hh⟩ := lst_rep s rv h1
  rw [ints_rep r2 h2] at hh
  exact ⟨a, ns, rfl, hh, p.here s q (.int _)⟩
theorem cl_all : CallL K (rAll K) Bi.all.wp := by
  intro vs ds F H M Q Q' s r h p
  obtain ⟨d, e, q⟩ := bi_wp h (by decide)
  obtain ⟨e, xs, ns, rfl, h1, h2, rfl⟩ := bls_inv (b := .all) (f := fun bs => bs.all id) (fun _ => rfl) rfl (fun x _ _ => by cases x <;> rfl) e
  obtain ⟨v, rfl, rv⟩ := r.one
  obtain ⟨a, ys, rfl, r2, hh⟩ := lst_rep s rv h1
  rw [bls_rep r2 h2] at hh
  exact ⟨a, ns, rfl, hh, p.here s q (.bl _)⟩
theorem cl_any : CallL K (rAny K) Bi.any.wp := by
  intro vs ds F H M Q Q' s r h p
  obtain ⟨d, e, q⟩ := bi_wp h (by decide)
  obtain ⟨e, xs, ns, rfl, h1, h2, rfl⟩ := bls_inv (b := .any) (f := fun bs => bs.any id) (fun _ => rfl) rfl (fun x _ _ => by cases x <;> rfl) e
  obtain ⟨v, rfl, rv⟩ := r.one
  obtain ⟨a, ys, rfl, r2, hh⟩ := lst_rep s rv h1
  rw [bls_rep r2 h2] at hh
  exact ⟨a, ns, rfl, hh, p.here s q (.bl _)⟩
theorem cl_dict : CallL K (fun xs H Q => ∃ (a : Addr) (kvs : List (Key × V)), xs = [.ref a] ∧ Rd H a (.dK kvs) ∧ ∀ p, H p = none → Q (.ref p) (upd H p (.dK kvs))) Bi.dict.wp := by
  intro vs ds F H M Q Q' s r h p
  obtain ⟨a, kvs, rfl, e, q⟩ := h
  obtain ⟨v, rfl, rv⟩ := r.one
  cases rv
  obtain ⟨_, ho, h1, ws, rfl, hk, r2⟩ := s.m a _ e
  refine ⟨a, ws, rfl, .inl h1, fun c hc => p.freshM s (mo := .dK kvs) q hc ⟨ws, rfl, hk, r2⟩⟩
theorem cl_abs : CallL K (fun xs H Q => ∃ i, xs = [.int i] ∧ Q (.int (if i < 0 then -i else i)) H) Bi.abs.wp := by
  intro vs ds F H M Q Q' s r h p
  obtain ⟨d, e, q⟩ := bi_wp h (by decide)
  obtain ⟨i, rfl, rfl⟩ := abs_inv e
  obtain ⟨v, rfl, rv⟩ := r.one
  cases rv
  exact ⟨i, rfl, p.here s q (.int _)⟩
theorem cl_max : CallL K (fun xs H Q => (fun xs H Q => ∃ i j, xs = [.int i, .int j] ∧ Q (.int (if j > i then j else i)) H) xs H Q ∨ rMax K xs H Q) Bi.max.wp := by
  intro vs ds F H M Q Q' s r h p
  obtain ⟨d, e, q⟩ := bi_wp h (by decide)
  rcases max_inv e with ⟨i, j, rfl, rfl⟩ | ⟨e, xs, ns, m, rfl, h1, h2, h3, rfl⟩
  · obtain ⟨v, w, rfl, rv, rw'⟩ := r.two
    cases rv; cases rw'
    exact .inl ⟨i, j, rfl, p.here s q (.int _)⟩
  · obtain ⟨v, rfl, rv⟩ := r.one
    obtain ⟨a, ys, rfl, r2, hh⟩ := lst_rep s rv h1
    rw [ints_rep r2 h2] at hh
    obtain ⟨m1, m2⟩ := List.max?_eq_some_iff.mp h3
    refine .inr ⟨a, ns, rfl, hh, List.length_pos_of_mem m1, fun k hk hall => ?_⟩
    have e1 : k ≤ m := m2 k hk
    have e2 : m ≤ k := hall m m1
    obtain rfl : k = m := Int.le_antisymm e1 e2
    exact p.here s q (.int _)
theorem cl_min : CallL K (fun xs H Q => ∃ i j, xs = [.int i, .int j] ∧ Q (.int (if j < i then j else i)) H) Bi.min.wp := by
  intro vs ds F H M Q Q' s r h p
  obtain ⟨d, e, q⟩ := bi_wp h (by decide)
  obtain ⟨i, j, rfl, rfl⟩ := min_inv e
  obtain ⟨v, w, rfl, rv, rw'⟩ := r.two
  cases rv; cases rw'
  exact ⟨i, j, rfl, p.here s q (.int _)⟩
theorem cl_int : CallL K (fun xs H Q => (∃ i, xs = [.int i] ∧ Q (.int i) H) ∨ ∃ k, xs = [.bl k] ∧ Q (.int (if k then 1 else 0)) H) Bi.int.wp := by
  intro vs ds F H M Q Q' s r h p
  obtain ⟨d, e, q⟩ := bi_wp h (by decide)
  rcases int_inv e with ⟨i, rfl, rfl⟩ | ⟨i, rfl, rfl⟩
  · obtain ⟨v, rfl, rv⟩ := r.one
    cases rv
    exact .inl ⟨i, rfl, p.here s q (.int _)⟩
  · obtain ⟨v, rfl, rv⟩ := r.one
    cases rv
    exact .inr ⟨i, rfl, p.here s q (.int _)⟩
theorem cl_len : CallL K (fun xs H Q => (∃ z, xs = [.str z] ∧ z.length ≤ sizeLine ∧ Q (.int z.length) H) ∨ ∃ p ys, xs = [.ref p] ∧ (SqL K H p ys ∨ SqT K H p ys) ∧ Q (.int ys.length) H) Bi.len.wp := by
  intro vs ds F H M Q Q' s r h p
  obtain ⟨d, e, q⟩ := bi_wp h (by decide)
  rcases len_inv e with ⟨x, rfl, hz, rfl⟩ | ⟨e, xs, rfl, hs, rfl⟩
  · obtain ⟨v, rfl, rv⟩ := r.one
    cases rv
    exact .inl ⟨x, rfl, szl hz, p.here s q (.int _)⟩
  · obtain ⟨v, rfl, rv⟩ := r.one
    obtain ⟨a, ys, rfl, r2, hh⟩ := seq_rep s rv hs
    refine .inr ⟨a, ys, rfl, hh.imp id (·.1), ?_⟩
    rw [r2.length]
    exact p.here s q (.int _)
theorem cl_tuple : CallL K (fun xs H Q => ∃ p ys, xs = [.ref p] ∧ ((SqL K H p ys ∧ ∀ l, H l = none → Q (.ref l) (upd H l (.tup ys))) ∨ (SqT K H p ys ∧ Q (.ref p) H))) Bi.tuple.wp := by
  intro vs ds F H M Q Q' s r h p
  obtain ⟨d, e, q⟩ := bi_wp h (by decide)
  obtain ⟨e, xs, rfl, hs, rfl⟩ := tuple_inv e
  obtain ⟨v, rfl, rv⟩ := r.one
  obtain ⟨a, ys, rfl, r2, hh⟩ := seq_rep s rv hs
  rcases hh with hh | ⟨hh, hd⟩
  · exact ⟨a, ys, rfl, .inl ⟨hh, fun l hl => p.fresh s q hl (new_tup s hl r2)⟩⟩
  · subst hd
    exact ⟨a, ys, rfl, .inr ⟨hh, p.here s q rv⟩⟩
theorem cl_list {m : Bool} : CallL K (fun xs H Q => ∃ p ys, xs = [.ref p] ∧ (SqL K H p ys ∨ SqT K H p ys) ∧ ∀ l, H l = none → Q (.ref l) (upd H l (.lst ys))) (Bi.list m).wp := by
  intro vs ds F H M Q Q' s r h p
  cases m with
  | false =>
    obtain ⟨d, e, q⟩ := bi_wp h (by decide)
    obtain ⟨e, xs, rfl, hs, rfl⟩ := list_inv e
    obtain ⟨v, rfl, rv⟩ := r.one
    obtain ⟨a, ys, rfl, r2, hh⟩ := seq_rep s rv hs
    exact ⟨a, ys, rfl, hh.imp id (·.1), fun l hl => p.fresh s q hl (new_lst s hl r2)⟩
  | true =>
    obtain ⟨e, xs, rfl, hs, q⟩ := h
    obtain ⟨v, rfl, rv⟩ := r.one
    obtain ⟨a, ys, rfl, r2, hh⟩ := seq_rep s rv hs
    exact ⟨a, ys, rfl, hh.imp id (·.1), fun l hl => p.freshM s q hl ⟨ys, rfl, r2⟩⟩

/-! isinstance -/
def tyName (M : Mo) : D → Option String
  | .non => some "NoneType" | .bl _ => some "bool" | .int _ => some "int" | .str _ => some "str" | .tup _ => some "tuple" | .lst _ => some "list"
  | .ref p => match M p with | some (.lst _) => some "list" | some (.dK _) => some "dict" | _ => none
  | .ty _ => none
  | .dic _ _ => none
theorem ty_rep {F H : Hp} {M : Mo} (s : Sat K F H M) {x : V} {d : D} (r : Rep K F x d) {t : String} (h : tyName M d = some t) : TyX K H x (.type t) := by
  cases r with
  | non => cases h; exact .base .non
  | bl b => cases h; exact .base (.bl b)
  | int i => cases h; exact .base (.int i)
  | str y => cases h; exact .base (.str y)
  | @tup a xs ds h1 r1 =>
    cases h
    rcases ex_t s.ex h1 with (h1 | ⟨o, h1⟩) | ⟨o, its, n, h1, h2, _⟩
    · exact .base (.tup h1)
    · exact .fTuple h1
    · exact .kTuple h1 h2
  | @lst a xs ds h1 r1 =>
    cases h
    rcases ex_l s.ex h1 with (h1 | ⟨o, h1⟩) | ⟨o, its, n, h1, h2, _⟩
    · exact .base (.lst h1)
    · exact .base (.frz h1)
    · exact .kList h1 h2
  | ref a =>
    simp only [tyName] at h
    cases e : M a with
    | none => rw [e] at h; cases h
    | some mo =>
      rw [e] at h
      obtain ⟨_, ho, h1, r1⟩ := s.m a mo e
      cases mo with
      | lst ds => obtain ⟨xs, rfl, r2⟩ := r1; cases h; exact .base (.lst h1)
      | dK kvs => obtain ⟨ws, rfl, hk, r2⟩ := r1; cases h; exact .base (.dK h1)
      | ins C fs => cases h
      | tbl => cases h
      | _ => cases h
  | ty n => cases h
  | dic _ _ _ => cases h
def tyTab (t T : String) : Option Bool :=
  if t = T ∨ (t = "bool" ∧ T = "int") then some true else some false
theorem kit_tab {t T : String} (ht : t = "NoneType" ∨ t = "bool" ∨ t = "int" ∨ t = "str" ∨ t = "tuple" ∨ t = "list" ∨ t = "dict") (hT : T = "int" ∨ T = "bool" ∨ T = "str" ∨ T = "tuple" ∨ T = "list" ∨ T = "dict") :
    PySem.W.kitOne K (.type t) (.type T) = tyTab t T := by
  rcases ht with rfl | rfl | rfl | rfl | rfl | rfl | rfl <;> rcases hT with rfl | rfl | rfl | rfl | rfl | rfl <;> exact kit_ty (by decide +kernel)
theorem instI_ok {M : Mo} {d : D} {T : String} {b : Bool} (h : instI M d T = some b) : ∃ t, tyName M d = some t ∧ (t = "NoneType" ∨ t = "bool" ∨ t = "int" ∨ t = "str" ∨ t = "tuple" ∨ t = "list" ∨ t = "dict") ∧ (T = "int" ∨ T = "bool" ∨ T = "str" ∨ T = "tuple" ∨ T = "list" ∨ T = "dict") ∧ tyTab t T = some b := by
  have go : ∀ {t : String}, (t = "NoneType" ∨ t = "bool" ∨ t = "int" ∨ t = "str" ∨ t = "tuple" ∨ t = "list" ∨ t = "dict") → tyName M d = some t → (T = "int" ∨ T = "bool" ∨ T = "str" ∨ T = "tuple" ∨ T = "list" ∨ T = "dict") → tyTab t T = some b →
      ∃ t, tyName M d = some t ∧ (t = "NoneType" ∨ t = "bool" ∨ t = "int" ∨ t = "str" ∨ t = "tuple" ∨ t = "list" ∨ t = "dict") ∧ (T = "int" ∨ T = "bool" ∨ T = "str" ∨ T = "tuple" ∨ T = "list" ∨ T = "dict") ∧ tyTab t T = some b := fun a b c e => ⟨_, b, a, c, e⟩
  cases d with
  | non =>
    simp only [instI] at h
    split at h
    · rename_i z; cases h
      rcases z with rfl | rfl | rfl | rfl | rfl | rfl <;> exact go (t := "NoneType") (by simp) rfl (by simp) (by decide)
    · cases h
  | bl x =>
    simp only [instI] at h
    split at h
    · rename_i z; cases h
      rcases z with rfl | rfl <;> exact go (t := "bool") (by simp) rfl (by simp) (by decide)
    · split at h
      · rename_i z; cases h
        rcases z with rfl | rfl | rfl | rfl <;> exact go (t := "bool") (by simp) rfl (by simp) (by decide)
      · cases h
  | int x =>
    simp only [instI] at h
    split at h
    · rename_i z; cases h; subst z; exact go (t := "int") (by simp) rfl (by simp) (by decide)
    · split at h
      · rename_i z; cases h
        rcases z with rfl | rfl | rfl | rfl | rfl <;> exact go (t := "int") (by simp) rfl (by simp) (by decide)
      · cases h
  | str x =>
    simp only [instI] at h
    split at h
    · rename_i z; cases h; subst z; exact go (t := "str") (by simp) rfl (by simp) (by decide)
    · split at h
      · rename_i z; cases h
        rcases z with rfl | rfl | rfl | rfl | rfl <;> exact go (t := "str") (by simp) rfl (by simp) (by decide)
      · cases h
  | tup x =>
    simp only [instI] at h
    split at h
    · rename_i z; cases h; subst z; exact go (t := "tuple") (by simp) rfl (by simp) (by decide)
    · split at h
      · rename_i z; cases h
        rcases z with rfl | rfl | rfl | rfl | rfl <;> exact go (t := "tuple") (by simp) rfl (by simp) (by decide)
      · cases h
  | lst x =>
    simp only [instI] at h
    split at h
    · rename_i z; cases h; subst z; exact go (t := "list") (by simp) rfl (by simp) (by decide)
    · split at h
      · rename_i z; cases h
        rcases z with rfl | rfl | rfl | rfl | rfl <;> exact go (t := "list") (by simp) rfl (by simp) (by decide)
      · cases h
  | ref p =>
    simp only [instI] at h
    cases e : M p with
    | none => rw [e] at h; cases h
    | some mo =>
      rw [e] at h
      cases mo with
      | lst xs =>
        simp only at h
        split at h
        · rename_i z; cases h; subst z; exact go (t := "list") (by simp) (by simp only [tyName, e]) (by simp) (by decide)
        · split at h
          · rename_i z; cases h
            rcases z with rfl | rfl | rfl | rfl | rfl <;> exact go (t := "list") (by simp) (by simp only [tyName, e]) (by simp) (by decide)
          · cases h
      | dK xs =>
        simp only at h
        split at h
        · rename_i z; cases h; subst z; exact go (t := "dict") (by simp) (by simp only [tyName, e]) (by simp) (by decide)
        · split at h
          · rename_i z; cases h
            rcases z with rfl | rfl | rfl | rfl | rfl <;> exact go (t := "dict") (by simp) (by simp only [tyName, e]) (by simp) (by decide)
          · cases h
      | ins C fs => cases h
      | tbl => cases h
      | _ => cases h
  | ty n => cases h
  | dic _ _ => cases h
theorem cl_isinst : CallL K (rIsi K) Bi.isinst.wp := by
  intro vs ds F H M Q Q' s r h p
  obtain ⟨d, e, q⟩ := bi_wp h (by decide)
  obtain ⟨e, T, b, rfl, hb, rfl⟩ := isinst_inv e
  obtain ⟨v, w, rfl, rv, rw'⟩ := r.two
  cases rw'
  obtain ⟨t, h1, h2, h3, h4⟩ := instI_ok hb
  exact ⟨v, .ty T, .type t, .type T, b, rfl, .ty T, ty_rep s rv h1, by rw [kit_tab h2 h3]; exact h4, p.here s q (.bl _)⟩
end
/-- each is there under its name -/
inductive BiRun (X : Cx) (b : Bi) : Prop
  | fn (id : String) (r : List V → Hp → VK → Prop) (c : CallR X (.builtin id) r) (l : CallL X.K r b.wp) (h : bootBuiltins b.name = some (.builtin id))
  | ty (id : String) (r : List V → Hp → VK → Prop) (c : CallR X (.type id) r) (l : CallL X.K r b.wp) (h : bootBuiltins b.name = some (.type id))
theorem bi_run {X : Cx} (hc : X.calm = true) (b : Bi) : BiRun X b := by
  cases b with
  | abs => exact .fn "abs" _ call_abs cl_abs (by decide +kernel)
  | max => exact .fn "max" _ ((call_max2 hc).or (cr_max hc)) cl_max (by decide +kernel)
  | min => exact .fn "min" _ (call_min2 hc) cl_min (by decide +kernel)
  | int => exact .ty "int" _ call_int1 cl_int (by decide +kernel)
  | len => exact .fn "len" _ (call_len_str.or call_len_seq) cl_len (by decide +kernel)
  | tuple => exact .ty "tuple" _ call_tuple_of cl_tuple (by decide +kernel)
  | list m => exact .ty "list" _ call_list_of cl_list (show bootBuiltins ("list" : Str) = some (.type "list") by decide +kernel)
  | isinst => exact .fn "isinstance" _ call_isi cl_isinst (by decide +kernel)
  | dict => exact .ty "dict" _ call_dictD cl_dict (by decide +kernel)
  | str => exact .ty "str" _ call_str_int cl_str (by decide +kernel)
  | sum => exact .fn "sum" _ (cr_sum hc) cl_sum (by decide +kernel)
  | all => exact .fn "all" _ (cr_all hc) cl_all (by decide +kernel)
  | any => exact .fn "any" _ (cr_any hc) cl_any (by decide +kernel)
end Vp
namespace Vp
open PySem PySem.Spec PyProof.Rows L2

/-! ### the small language -/
mutual
inductive Tg where
  | nm (i : Nat) | tup (ts : Tgs)
inductive Tgs where
  | nil | cons (t : Tg) (r : Tgs)
end
mutual
def bindT : Tg → D → Rho → Option Rho
  | .nm i, d, ρ => some (ρ.set i (some d))
  | .tup ts, d, ρ => match d with | .tup ds => bindTs ts ds ρ | _ => none
def bindTs : Tgs → List D → Rho → Option Rho
  | .nil, ds, ρ => match ds with | [] => some ρ | _ :: _ => none
  | .cons t r, ds, ρ => match ds with | [] => none | d :: ds => match bindT t d ρ with | none => none | some ρ' => bindTs r ds ρ'
end
mutual
def slotsT : Tg → List Nat
  | .nm i => [i] | .tup ts => slotsTs ts
def slotsTs : Tgs → List Nat
  | .nil => [] | .cons t r => slotsT t ++ slotsTs r
end
mutual
inductive E where
  | var (i : Nat) | cint (i : Int) | cstr (x : Str) | cbl (b : Bool) | cnon | cty (T : String)
  | bin (op : Operator) (a b : E) | neg (a : E)
  | cmp (op : CmpOp) (a b : E) | chain (op op' : CmpOp) (a b c : E)
  | and (a b : E) | or (a b : E) | not (a : E) | ite (t : T) (a b : E)
  | tup (es : Es) | lst (m : Bool) (es : Es)
  | call (k : Nat) (es : Es) | bi (b : Bi) (es : Es)
  | ix (a b : E) | comp (m : Bool) (elt : E) (tg : Tg) (it : I) (c : To)
  | sl (a : E) (lo hi : Eo) | isin (neg : Bool) (a b : E) | glob (k : Nat) | dnew | get1 (o k : E) | get2 (o k d : E)
  | comp2 (m : Bool) (elt : E) (tg : Tg) (it : I) (c : To) (tg1 : Tg) (it1 : I) (c1 : To) | ddisp (k v : E) | callv (i : Nat) (es : Es) | fld (o : E) (f : Str) | make (k : Nat) (es : Es) | meth (k : Nat) (o : E) (es : Es) | allg (i : Nat) (elt : E) (it : I)
  | rep (m : Bool) (es : Es) (b : E) | bor (l : Bool) (e : E) | ixT (o : E) (es : Es) | dnewT | pop (o : E) | idx (o x k : E)
  | xfld (o : E) (f : Str) | kget (o k : E) | makek (k : Nat) (es : Es) | lvals (o : E) | dcomp (k v : E) (tg : Tg) (it : I)
  | tx1 (k : Bool) (o y : E) | find3 (o y z : E) | split (o y : E) | join (o y : E)
  | callH (k : Nat) (es : Es) | biN (b : Bi) (es : Es) | compH (elt : E) (tg : Tg) (e : E)
inductive Eo where
  | none | some (e : E)
inductive Es where
  | nil | cons (e : E) (r : Es)
inductive T where
  | tr (e : E) | isin (neg : Bool) (a b : E) | cmp (op : CmpOp) (a b : E) | chain (op op' : CmpOp) (a b c : E) | and (a b : T) | or (a b : T) | not (a : T) | bor (t : T)
inductive To where
  | none | some (t : T)
inductive I where
  | seq (e : E) | range1 (e : E) | range2 (a b : E) | zip (a b : E) | enum (e : E) | chars (e : E) | rev (e : E) | range3 (a b c : E) | enumK (e : E) | items (o : E) | keys (o : E)
end
/-- the parts of an f'..' -/
inductive Js where
  | nil | c (x : Str) (r : Js) | f (e : E) (r : Js)
/-- what a def promises, by data -/
abbrev Con := List D → Mo → QE → XQ → Prop
structure Fn where
  name : Str
  n : Nat
  con : Con
/-- a class, by its __init__ (the new instance is its first argument); a class's method -/
structure Cl where
  name : Str
  cls : Addr
  n : Nat
  con : Con
/-- a class made by a call with keywords: the call's keywords, and how the arguments stand behind self -/
structure Kc where
  name : Str
  cls : Addr
  ks : List Str
  n : Nat
  arr : List D → List D
  con : Con
/-- a class of exceptions, by the fields that its __init__ stores -/
structure Xc where
  name : Str
  cls : Addr
  n : Nat
  flds : List D → Option (List (Str × D))
/-- what is known of the names at the top: functions, constants, classes, methods, fields that no class of it knows; the table; classes by keywords, of exceptions, what catches what, the handled exception (where, its class, its dict), its fields that no class knows, dicts of the text, base classes of exceptions -/
structure Env' where
  fns : List Fn := []
  cs : List (Str × D) := []
  mks : List Cl := []
  mts : List Cl := []
  fls : List (Addr × Str) := []
  tb : Option Addr := none
  kms : List Kc := []
  xcs : List Xc := []
  exm : List ((Value × Addr) × Bool) := []
  xh : Option (Addr × Value × Addr) := none
  xfl : List (Addr × Str) := []
  kd : List (Addr × List (Str × D)) := []
  pes : List Str := []
  hfs : List Fn := []
abbrev Gam := Env'
abbrev g0 : Gam := {}
instance : Coe (List Fn) Gam := ⟨fun l => { fns := l }⟩
def seqF : D → Option (List D)
  | .tup ds => some ds | .lst ds => some ds | _ => none
def seqL : D → Option (List D)
  | .lst ds => some ds | _ => none
def prD (x y : D) : D := .tup [x, y]
def kD : Key → D
  | .inl i => .int i
  | .inr x => .str x
def noX : XQ := fun _ _ _ => False
/-- a comprehension over the items -/
def vComp (we : VE) (wt : Rho → Mo → (Bool → Mo → Prop) → XQ → Prop) (tg : Tg) (ρ : Rho) : List D → List D → Mo → (List D → Mo → Prop) → Prop
  | [], acc, M, Q => Q acc M
  | d :: r, acc, M, Q => ∃ ρ', bindT tg d (wipeR ρ (slotsT tg)) = some ρ' ∧ wt ρ' M (fun b M1 => if b = true then we ρ' M1 (fun y M2 => vComp we wt tg ρ r (acc ++ [y]) M2 Q) noX else vComp we wt tg ρ r acc M1 Q) noX
/-- two for's -/
def vComp2 (we : VE) (wt : Rho → Mo → (Bool → Mo → Prop) → XQ → Prop) (tg : Tg) (wi1 : Rho → Mo → (List D → Mo → Prop) → XQ → Prop) (wt1 : Rho → Mo → (Bool → Mo → Prop) → XQ → Prop) (tg1 : Tg) (ρ : Rho) : List D → List D → Mo → (List D → Mo → Prop) → Prop
  | [], acc, M, Q => Q acc M
  | d :: r, acc, M, Q => ∃ ρ', bindT tg d (wipeR ρ (slotsT tg ++ slotsT tg1)) = some ρ' ∧ wt ρ' M (fun b M1 => if b = true then wi1 ρ' M1 (fun ds M2 => acc.length + ds.length ≤ 16777216 ∧ vComp we wt1 tg1 ρ' ds acc M2 (fun acc M3 => vComp2 we wt tg wi1 wt1 tg1 ρ r acc M3 Q)) noX else vComp2 we wt tg wi1 wt1 tg1 ρ r acc M1 Q) noX
/-- all(test for x in items) -/
def vAll (we : VE) (i : Nat) (ρ : Rho) : List D → Mo → QE → Prop
  | [], M, Q => Q (.bl true) M
  | d :: r, M, Q => we ((wipeR ρ [i]).set i (some d)) M (fun y M1 => ∃ b, y = .bl b ∧ if b = true then vAll we i ρ r M1 Q else Q (.bl false) M1) noX
mutual
/-- the lists that may change, seen as they stand: for a call that changes none of them -/
def viewD (M : Mo) : D → D
  | .ref p => match M p with | some (.lst ds) => .lst ds | _ => .ref p
  | .tup ds => .tup (viewDs M ds)
  | .lst ds => .lst (viewDs M ds)
  | d => d
def viewDs (M : Mo) : List D → List D
  | [] => []
  | d :: r => viewD M d :: viewDs M r
end
def viewR (M : Mo) (ρ : Rho) : Rho := ρ.map (Option.map (viewD M))
def tabM (M : Mo) : Mo := fun a => match M a with | some .tbl => some .tbl | _ => none
/-- a dict comprehension over the items; the dict at p, what it holds -/
def vDcomp (wk wv : VE) (tg : Tg) (ρ : Rho) : List D → List (Key × D) → Mo → (List (Key × D) → Mo → Prop) → Prop
  | [], acc, M, Q => Q acc M
  | d :: r, acc, M, Q => ∃ ρ', bindT tg d (wipeR ρ (slotsT tg)) = some ρ' ∧ wk ρ' M (fun y M1 => wv ρ' M1 (fun z M2 => ∃ k, keyD y = some k ∧ vDcomp wk wv tg ρ r (putD acc k z) M2 Q) noX) noX
def kgetV (l : List (Str × D)) (k : Str) : D := (l.lookup k).getD .non
mutual
def vE (Γ : Gam) : E → Rho → Mo → QE → XQ → Prop
  | .var i, ρ, M, Q, _ => ∃ d, ρ[i]? = some (some d) ∧ Q d M
  | .cint i, _, M, Q, _ => Q (.int i) M
  | .cstr x, _, M, Q, _ => Q (.str x) M
  | .cbl b, _, M, Q, _ => Q (.bl b) M
  | .cnon, _, M, Q, _ => Q .non M
  | .cty T, _, M, Q, _ => Q (.ty T) M
  | .bin op a b, ρ, M, Q, X => vE Γ a ρ M (fun x M1 => vE Γ b ρ M1 (fun y M2 => fOp (binV op) x y M2 Q) X) X
  | .neg a, ρ, M, Q, X => vE Γ a ρ M (fun x M1 => ∃ i, x = .int i ∧ Q (.int (-i)) M1) X
  | .cmp op a b, ρ, M, Q, X => vE Γ a ρ M (fun x M1 => vE Γ b ρ M1 (fun y M2 => fCmp (cmpV op) x y M2 Q) X) X
  | .chain op op' a b c, ρ, M, Q, X => vE Γ a ρ M (fun x M1 => vE Γ b ρ M1 (fun y M2 => ∃ k, cmpV op x y = some k ∧ if k = true then vE Γ c ρ M2 (fun z M3 => fCmp (cmpV op') y z M3 Q) X else Q (.bl false) M2) X) X
  | .and a b, ρ, M, Q, X => vE Γ a ρ M (fun x M1 => ∃ c, x = .bl c ∧ if c = true then vE Γ b ρ M1 Q X else Q (.bl false) M1) X
  | .or a b, ρ, M, Q, X => vE Γ a ρ M (fun x M1 => ∃ c, x = .bl c ∧ if c = true then Q (.bl true) M1 else vE Γ b ρ M1 Q X) X
  | .not a, ρ, M, Q, X => vE Γ a ρ M (fun x M1 => ∃ c, x = .bl c ∧ Q (.bl (!c)) M1) X
  | .ite t a b, ρ, M, Q, X => vT Γ t ρ M (fun c M1 => if c = true then vE Γ a ρ M1 Q X else vE Γ b ρ M1 Q X) X
  | .tup es, ρ, M, Q, X => vEs Γ es ρ M (fun ds M1 => ds.length ≤ 16777216 ∧ Q (.tup ds) M1) X
  | .lst m es, ρ, M, Q, X => vEs Γ es ρ M (fun ds M1 => ds.length ≤ 16777216 ∧ if m = true then ∀ p, M1 p = none → Q (.ref p) (updM M1 p (.lst ds)) else Q (.lst ds) M1) X
  | .call k es, ρ, M, Q, X => vEs Γ es ρ M (fun ds M1 => ∃ g, Γ.fns[k]? = some g ∧ ds.length = g.n ∧ g.con ds M1 Q X) X
  | .bi b es, ρ, M, Q, X => vEs Γ es ρ M (fun ds M1 => b.wp ds M1 Q) X
  | .ix a b, ρ, M, Q, X => vE Γ a ρ M (fun x M1 => vE Γ b ρ M1 (fun y M2 => ∃ d, ixV M2 x y = some d ∧ Q d M2) X) X
  | .comp m elt tg it c, ρ, M, Q, X => vI Γ it ρ M (fun ds M1 => ds.length ≤ 16777216 ∧ vComp (vE Γ elt) (vTo Γ c) tg ρ ds [] M1 (fun acc M2 => if m = true then ∀ p, M2 p = none → Q (.ref p) (updM M2 p (.lst acc)) else Q (.lst acc) M2)) X
  | .sl a lo hi, ρ, M, Q, X => vE Γ a ρ M (fun x M1 => vEo Γ lo ρ M1 (fun l M2 => vEo Γ hi ρ M2 (fun h M3 => ∃ d, slV M3 x l h = some d ∧ Q d M3) X) X) X
  | .isin neg a b, ρ, M, Q, X => vE Γ a ρ M (fun x M1 => vE Γ b ρ M1 (fun y M2 => ∃ k, inV M2 x y = some k ∧ Q (.bl (if neg then !k else k)) M2) X) X
  | .glob k, _, M, Q, _ => ∃ c, Γ.cs[k]? = some c ∧ Q c.2 M
  | .dnew, _, M, Q, _ => ∀ p, M p = none → Q (.ref p) (updM M p (.dK []))
  | .get1 o k, ρ, M, Q, X => vE Γ o ρ M (fun x M1 => (∃ p kvs, x = .ref p ∧ M1 p = some (.dK kvs)) ∧ vE Γ k ρ M1 (fun y M2 => ∃ p kvs kk, x = .ref p ∧ M2 p = some (.dK kvs) ∧ keyD y = some kk ∧ Q ((valD kvs kk).getD .non) M2) X) X
  | .get2 o k d, ρ, M, Q, X => vE Γ o ρ M (fun x M1 => (∃ p kvs, x = .ref p ∧ M1 p = some (.dK kvs)) ∧ vE Γ k ρ M1 (fun y M2 => vE Γ d ρ M2 (fun z M3 => ∃ p kvs kk, x = .ref p ∧ M3 p = some (.dK kvs) ∧ keyD y = some kk ∧ Q ((valD kvs kk).getD z) M3) X) X) X
  | .comp2 m elt tg it c tg1 it1 c1, ρ, M, Q, X => vI Γ it ρ M (fun ds M1 => vComp2 (vE Γ elt) (vTo Γ c) tg (vI Γ it1) (vTo Γ c1) tg1 ρ ds [] M1 (fun acc M2 => if m = true then ∀ p, M2 p = none → Q (.ref p) (updM M2 p (.lst acc)) else Q (.lst acc) M2)) X
  | .ddisp k v, ρ, M, Q, X => ∀ p, M p = none → vE Γ k ρ (updM M p (.dK [])) (fun x M1 => vE Γ v ρ M1 (fun y M2 => M2 p = some (.dK []) ∧ ∃ kk, keyD x = some kk ∧ Q (.ref p) (updM M2 p (.dK [(kk, y)]))) X) X
  | .callv i es, ρ, M, Q, X => ∃ a g, ρ[i]? = some (some (.ref a)) ∧ g ∈ Γ.fns ∧ (g.name, .ref a) ∈ Γ.cs ∧ vEs Γ es ρ M (fun ds M1 => ds.length = g.n ∧ g.con ds M1 Q X) X
  | .fld o f, ρ, M, Q, X => vE Γ o ρ M (fun x M1 => ∃ p C fs d, x = .ref p ∧ M1 p = some (.ins C fs) ∧ (C, f) ∈ Γ.fls ∧ fs.lookup f = some d ∧ Q d M1) X
  | .make k es, ρ, M, Q, X => vEs Γ es ρ M (fun ds M1 => ∃ g, Γ.mks[k]? = some g ∧ ds.length + 1 = g.n ∧ ∀ p, M1 p = none → g.con (.ref p :: ds) (updM M1 p (.ins g.cls [])) (fun r M2 => r = .non ∧ Q (.ref p) M2) X) X
  | .meth k o es, ρ, M, Q, X => vE Γ o ρ M (fun x M1 => ∃ g p fs, Γ.mts[k]? = some g ∧ x = .ref p ∧ M1 p = some (.ins g.cls fs) ∧ fs.lookup g.name = none ∧ vEs Γ es ρ M1 (fun ds M2 => ds.length + 1 = g.n ∧ g.con (x :: ds) M2 Q X) X) X
  | .allg i elt it, ρ, M, Q, X => vI Γ it ρ M (fun ds M1 => (∃ T, Γ.tb = some T ∧ M1 T = some .tbl) ∧ vAll (vE Γ elt) i ρ ds M1 Q) X
  | .rep m es b, ρ, M, Q, X => vEs Γ es ρ M (fun ds M1 => ds.length ≤ 16777216 ∧ vE Γ b ρ M1 (fun y M2 => ∃ k : Int, y = .int k ∧ (-(2 ^ 62) ≤ k ∧ k < 2 ^ 62 ∧ ds.length * k.toNat ≤ 16777216) ∧ if m = true then ∀ p, M2 p = none → Q (.ref p) (updM M2 p (.lst (List.replicate k.toNat ds).flatten)) else Q (.lst (List.replicate k.toNat ds).flatten) M2) X) X
  | .bor l e, ρ, M, Q, _ => vE Γ e (viewR M ρ) (tabM M) (fun r M2 => Sub (tabM M) M2 ∧ if l = true then ∃ q ds, r = .ref q ∧ M2 q = some (.lst ds) ∧ ds.all flatD = true ∧ (M q = none → Q (.ref q) (updM M q (.lst ds))) else flatD r = true ∧ Q r M) noX
  | .ixT o es, ρ, M, Q, X => vE Γ o ρ M (fun x M1 => vEs Γ es ρ M1 (fun ds M2 => ∃ p kvs ks d, x = .ref p ∧ M2 p = some (.dT kvs) ∧ keyL ds = some ks ∧ valD kvs ks = some d ∧ ds.length ≤ 16777216 ∧ Q d M2) X) X
  | .dnewT, _, M, Q, _ => ∀ p, M p = none → Q (.ref p) (updM M p (.dT []))
  | .pop o, ρ, M, Q, X => vE Γ o ρ M (fun x M1 => ∃ p xs y, x = .ref p ∧ M1 p = some (.lst xs) ∧ xs[xs.length - 1]? = some y ∧ Q y (updM M1 p (.lst xs.dropLast))) X
  | .idx o x k, ρ, M, Q, X => vE Γ o ρ M (fun u M1 => (∃ ds, seqL' M1 u = some ds) ∧ vE Γ x ρ M1 (fun v M2 => vE Γ k ρ M2 (fun w M3 => ∃ (ds : List D) (i j : Nat) (z : D), seqL' M3 u = some ds ∧ w = .int (i : Nat) ∧ flatD v = true ∧ ds.all flatD = true ∧ i ≤ j ∧ ds[j]? = some z ∧ eqFl z v = true ∧ (∀ (m : Nat) (z' : D), i ≤ m → m < j → ds[m]? = some z' → eqFl z' v = false) ∧ Q (.int (j : Nat)) M3) X) X) X
  | .xfld o f, ρ, M, Q, X => vE Γ o ρ M (fun x M1 => ∃ a C dd fs d, Γ.xh = some (a, .ref C, dd) ∧ x = .ref a ∧ M1 dd = some (.xd fs) ∧ fs.lookup f = some d ∧ (C, f) ∈ Γ.xfl ∧ Q d M1) X
  | .kget o k, ρ, M, Q, X => vE Γ o ρ M (fun x M1 => (∃ a kvs, x = .ref a ∧ (a, kvs) ∈ Γ.kd) ∧ vE Γ k ρ M1 (fun y M2 => ∃ a kvs z, x = .ref a ∧ (a, kvs) ∈ Γ.kd ∧ y = .str z ∧ Q (kgetV kvs z) M2) X) X
  | .makek k es, ρ, M, Q, X => vEs Γ es ρ M (fun ds M1 => ∃ g, Γ.kms[k]? = some g ∧ ds.length = g.ks.length ∧ ∀ p, M1 p = none → g.con (.ref p :: g.arr ds) (updM M1 p (.ins g.cls [])) (fun r M2 => r = .non ∧ Q (.ref p) M2) X) X
  | .lvals o, ρ, M, Q, X => vE Γ o ρ M (fun x M1 => ∃ p kvs, x = .ref p ∧ M1 p = some (.dK kvs) ∧ Q (.lst (kvs.map (·.2))) M1) X
  | .dcomp k v tg it, ρ, M, Q, X => vI Γ it ρ M (fun ds M1 => ds.length ≤ 16777216 ∧ vDcomp (vE Γ k) (vE Γ v) tg ρ ds [] M1 (fun acc M2 => ∀ p, M2 p = none → Q (.ref p) (updM M2 p (.dK acc)))) X
  | .tx1 k o y, ρ, M, Q, X => vE Γ o ρ M (fun u M1 => (∃ a, u = .str a) ∧ vE Γ y ρ M1 (fun v M2 => ∃ a b, u = .str a ∧ v = .str b ∧ Q (.int (if k = true then Txt.count a b else Txt.rfind a b)) M2) X) X
  | .find3 o y z, ρ, M, Q, X => vE Γ o ρ M (fun u M1 => (∃ a, u = .str a) ∧ vE Γ y ρ M1 (fun v M2 => vE Γ z ρ M2 (fun w M3 => ∃ a b i, u = .str a ∧ v = .str b ∧ w = .int i ∧ Q (.int (Txt.find3 a b i)) M3) X) X) X
  | .split o y, ρ, M, Q, X => vE Γ o ρ M (fun u M1 => (∃ a, u = .str a) ∧ vE Γ y ρ M1 (fun v M2 => ∃ a b, u = .str a ∧ v = .str b ∧ (b.length == 0) = false ∧ a.length + 2 ≤ sizeLine ∧ Q (.lst ((Txt.split a b).map .str)) M2) X) X
  | .join o y, ρ, M, Q, X => vE Γ o ρ M (fun u M1 => (∃ a, u = .str a) ∧ vE Γ y ρ M1 (fun v M2 => ∃ a ys, u = .str a ∧ seqL' M2 v = some (ys.map .str) ∧ (ys.map (·.length)).sum + ys.length * a.length ≤ 16777216 ∧ Q (.str (Txt.join a ys)) M2) X) X
  | .callH k es, ρ, M, Q, X => vEs Γ es ρ M (fun ds M1 => ∃ g, Γ.hfs[k]? = some g ∧ ds.length = g.n ∧ g.con ds M1 Q noX) X
  | .biN b es, ρ, M, Q, X => vEs Γ es ρ M (fun ds M1 => b.wp ds M1 Q) X
  | .compH elt tg e, ρ, M, Q, X => vE Γ e ρ M (fun x M1 => ∃ n : Int, x = .int n ∧ -(2 ^ 62) ≤ n ∧ n < 2 ^ 62 ∧ ((List.range n.toNat).map fun (i : Nat) => (D.int (0 + (i : Int)))).length ≤ 16777216 ∧ vComp (vE Γ elt) (fun _ M2 Q2 _ => Q2 true M2) tg ρ ((List.range n.toNat).map fun (i : Nat) => .int (0 + (i : Int))) [] M1 (fun acc M2 => Q (.lst acc) M2)) X
def vEo (Γ : Gam) : Eo → Rho → Mo → (Option Int → Mo → Prop) → XQ → Prop
  | .none, _, M, Q, _ => Q none M
  | .some e, ρ, M, Q, X => vE Γ e ρ M (fun x M1 => ∃ i, x = .int i ∧ Q (some i) M1) X
def vEs (Γ : Gam) : Es → Rho → Mo → (List D → Mo → Prop) → XQ → Prop
  | .nil, _, M, Q, _ => Q [] M
  | .cons e r, ρ, M, Q, X => vE Γ e ρ M (fun x M1 => vEs Γ r ρ M1 (fun xs M2 => Q (x :: xs) M2) X) X
def vT (Γ : Gam) : T → Rho → Mo → (Bool → Mo → Prop) → XQ → Prop
  | .tr e, ρ, M, Q, X => vE Γ e ρ M (fun x M1 => ∃ k, truD M1 x = some k ∧ Q k M1) X
  | .isin neg a b, ρ, M, Q, X => vE Γ a ρ M (fun x M1 => vE Γ b ρ M1 (fun y M2 => ∃ k, inV M2 x y = some k ∧ Q (if neg then !k else k) M2) X) X
  | .cmp op a b, ρ, M, Q, X => vE Γ a ρ M (fun x M1 => vE Γ b ρ M1 (fun y M2 => ∃ k, cmpV op x y = some k ∧ Q k M2) X) X
  | .chain op op' a b c, ρ, M, Q, X => vE Γ a ρ M (fun x M1 => vE Γ b ρ M1 (fun y M2 => ∃ k, cmpV op x y = some k ∧ if k = true then vE Γ c ρ M2 (fun z M3 => ∃ k', cmpV op' y z = some k' ∧ Q k' M3) X else Q false M2) X) X
  | .and a b, ρ, M, Q, X => vT Γ a ρ M (fun c M1 => if c = true then vT Γ b ρ M1 Q X else Q false M1) X
  | .or a b, ρ, M, Q, X => vT Γ a ρ M (fun c M1 => if c = true then Q true M1 else vT Γ b ρ M1 Q X) X
  | .not a, ρ, M, Q, X => vT Γ a ρ M (fun c M1 => Q (!c) M1) X
  | .bor t, ρ, M, Q, _ => vT Γ t (viewR M ρ) (tabM M) (fun b M2 => Sub (tabM M) M2 ∧ Q b M) noX
def vTo (Γ : Gam) : To → Rho → Mo → (Bool → Mo → Prop) → XQ → Prop
  | .none, _, M, Q, _ => Q true M
  | .some t, ρ, M, Q, X => vT Γ t ρ M Q X
def vI (Γ : Gam) : I → Rho → Mo → (List D → Mo → Prop) → XQ → Prop
  | .seq e, ρ, M, Q, X => vE Γ e ρ M (fun x M1 => ∃ ds, seqF x = some ds ∧ Q ds M1) X
  | .range1 e, ρ, M, Q, X => vE Γ e ρ M (fun x M1 => ∃ n : Int, x = .int n ∧ -(2 ^ 62) ≤ n ∧ n < 2 ^ 62 ∧ Q ((List.range n.toNat).map fun (i : Nat) => .int (0 + (i : Int))) M1) X
  | .range2 a b, ρ, M, Q, X => vE Γ a ρ M (fun x M1 => vE Γ b ρ M1 (fun y M2 => ∃ n m : Int, x = .int n ∧ y = .int m ∧ (-(2 ^ 62) ≤ n ∧ n < 2 ^ 62 ∧ -(2 ^ 62) ≤ m ∧ m < 2 ^ 62) ∧ Q ((List.range (m - n).toNat).map fun (i : Nat) => .int (n + (i : Int))) M2) X) X
  | .zip a b, ρ, M, Q, X => vE Γ a ρ M (fun x M1 => vE Γ b ρ M1 (fun y M2 => ∃ xs ys, seqF x = some xs ∧ seqF y = some ys ∧ Q (List.zipWith prD xs ys) M2) X) X
  | .enum e, ρ, M, Q, X => vE Γ e ρ M (fun x M1 => ∃ xs, seqF x = some xs ∧ Q (xs.zipIdx.map fun p => prD (.int (p.2 : Nat)) p.1) M1) X
  | .chars e, ρ, M, Q, X => vE Γ e ρ M (fun x M1 => ∃ z : Str, x = .str z ∧ Q (z.cps.toList.map fun c => .str ⟨#[c]⟩) M1) X
  | .rev e, ρ, M, Q, X => vE Γ e ρ M (fun x M1 => ∃ ds, seqF x = some ds ∧ Q ds.reverse M1) X
  | .range3 a b c, ρ, M, Q, X => vE Γ a ρ M (fun x M1 => vE Γ b ρ M1 (fun y M2 => vE Γ c ρ M2 (fun z M3 => ∃ (n m st : Int) (k : Nat), x = .int n ∧ y = .int m ∧ z = .int st ∧ RgC n m st k ∧ Q ((List.range k).map fun (i : Nat) => .int (n + (i : Nat) * st)) M3) X) X) X
  | .enumK e, ρ, M, Q, X => vE Γ e ρ M (fun x M1 => (∃ xs, seqF x = some xs ∧ Q (xs.zipIdx.map fun p => prD (.int (p.2 : Nat)) p.1) M1) ∨ ∃ ks ds, x = .dic ks ds ∧ Q (ks.zipIdx.map fun p => prD (.int (p.2 : Nat)) (kD p.1)) M1) X
  | .items o, ρ, M, Q, X => vE Γ o ρ M (fun x M1 => ∃ ks ds, x = .dic ks ds ∧ Q (List.zipWith prD (ks.map kD) ds) M1) X
  | .keys o, ρ, M, Q, X => vE Γ o ρ M (fun x M1 => ∃ ks ds, x = .dic ks ds ∧ Q (ks.map kD) M1) X
end
/-- a part's signs, at most -/
def fmtB : D → Option Nat
  | .str y => some y.length
  | .int i => if i.natAbs.log2 < 1920 then some (toString i : Str).length else none
  | _ => none
/-- the parts of an f'..', so many signs before -/
def vJs (Γ : Gam) : Js → Nat → Rho → Mo → (Mo → Prop) → XQ → Prop
  | .nil, _, _, M, Q, _ => Q M
  | .c x r, n, ρ, M, Q, X => n + x.length ≤ 16777216 ∧ vJs Γ r (n + x.length) ρ M Q X
  | .f e r, n, ρ, M, Q, X => vE Γ e ρ M (fun d M1 => ∃ m, fmtB d = some m ∧ n + m ≤ 16777216 ∧ vJs Γ r (n + m) ρ M1 Q X) X

/-! ### statements -/
structure EndsD where
  nx : Rho → Mo → Prop
  rt : QE
  bk : Rho → Mo → Prop
  ct : Rho → Mo → Prop
  ex : Value → List (Str × D) → Rho → Mo → Prop
mutual
inductive S where
  | asg (tg : Tg) (e : E) | setC (i : Nat) (e : E) | aug (i : Nat) (op : Operator) (e : E) | ret (e : E) | retN
  | ifs (t : T) (a b : Ss) | for (tg : Tg) (it : I) (body : Ss) | while (t : T) (body : Ss)
  | expr (e : E) | app (o e : E) | ext (o e : E) | setIx (o i e : E) | rvs (o : E) | setT (o : E) (es : Es) (e : E) | setF (o : E) (f : Str) (e : E) | augF (o : E) (f : Str) (op : Operator) (e : E) | pass | brk | cont | never
  | rais (k : Nat) (es : Es) | tryAs (body : Ss) (k i : Nat) (suite : Ss) | pei (o : E) (js : Js) | setX (o : E) (f : Str) (e : E)
inductive Ss where
  | nil | cons (s : S) (r : Ss) | frz (i : Nat) (r : Ss) | frzF (i : Nat) (f : Str) (r : Ss)
end
def augV : Operator → D → D → Option D
  | .Add, .int i, .int j => some (.int (i + j))
  | .Add, .str x, .str y => if x.length + y.length ≤ 16777216 then some (.str (x ++ y)) else none
  | .Sub, .int i, .int j => some (.int (i - j))
  | .Mult, .int i, .int j => if (-(2 ^ 64) < i ∧ i < 2 ^ 64) ∨ (-(2 ^ 64) < j ∧ j < 2 ^ 64) then some (.int (i * j)) else none
  | _, _, _ => none
def vFor (wb : EndsD → Rho → Mo → Prop) (tg : Tg) (K : EndsD) : List D → Rho → Mo → Prop
  | [], ρ, M => K.nx ρ M
  | d :: r, ρ, M => ∃ ρ', bindT tg d ρ = some ρ' ∧ wb { K with nx := vFor wb tg K r, ct := vFor wb tg K r, bk := K.nx } ρ' M
def vWhile (wt : Rho → Mo → (Bool → Mo → Prop) → XQ → Prop) (wb : EndsD → Rho → Mo → Prop) (K : EndsD) : Nat → Rho → Mo → Prop
  | 0, _, _ => False
  | n + 1, ρ, M => wt ρ M (fun b M1 => if b = true then wb { K with nx := vWhile wt wb K n, ct := vWhile wt wb K n, bk := K.nx } ρ M1 else K.nx ρ M1) (fun c fs M1 => K.ex c fs ρ M1)
mutual
def vS (Γ : Gam) : S → EndsD → Rho → Mo → Prop
  | .asg tg e, K, ρ, M => vE Γ e ρ M (fun d M1 => ∃ ρ', bindT tg d ρ = some ρ' ∧ K.nx ρ' M1) (fun c fs M1 => K.ex c fs ρ M1)
  | .setC i e, K, ρ, M => vE Γ e ρ M (fun d M1 => K.nx (ρ.set i (some d)) M1) (fun c fs M1 => K.ex c fs ρ M1)
  | .aug i op e, K, ρ, M => ∃ x, ρ[i]? = some (some x) ∧ vE Γ e ρ M (fun y M1 => ∃ z, augV op x y = some z ∧ K.nx (ρ.set i (some z)) M1) (fun c fs M1 => K.ex c fs ρ M1)
  | .ret e, K, ρ, M => vE Γ e ρ M K.rt (fun c fs M1 => K.ex c fs ρ M1)
  | .retN, K, _, M => K.rt .non M
  | .ifs t a b, K, ρ, M => vT Γ t ρ M (fun c M1 => if c = true then vSs Γ a K ρ M1 else vSs Γ b K ρ M1) (fun c fs M1 => K.ex c fs ρ M1)
  | .for tg it body, K, ρ, M => vI Γ it ρ M (fun ds M1 => vFor (vSs Γ body) tg K ds ρ M1) (fun c fs M1 => K.ex c fs ρ M1)
  | .while t body, K, ρ, M => ∃ n, vWhile (vT Γ t) (vSs Γ body) K n ρ M
  | .expr e, K, ρ, M => vE Γ e ρ M (fun _ M1 => K.nx ρ M1) (fun c fs M1 => K.ex c fs ρ M1)
  | .app o e, K, ρ, M => vE Γ o ρ M (fun x M1 => ∃ p xs, x = .ref p ∧ M1 p = some (.lst xs) ∧ vE Γ e ρ M1 (fun y M2 => ∃ ys, M2 p = some (.lst ys) ∧ ys.length < 16777216 ∧ K.nx ρ (updM M2 p (.lst (ys ++ [y])))) (fun c fs M2 => K.ex c fs ρ M2)) (fun c fs M1 => K.ex c fs ρ M1)
  | .setIx o i e, K, ρ, M => vE Γ e ρ M (fun d M1 => vE Γ o ρ M1 (fun x M2 => vE Γ i ρ M2 (fun k M3 => ∃ p mo, x = .ref p ∧ setV (M3 p) k d = some mo ∧ K.nx ρ (updM M3 p mo)) (fun c fs M2 => K.ex c fs ρ M2)) (fun c fs M2 => K.ex c fs ρ M2)) (fun c fs M1 => K.ex c fs ρ M1)
  | .ext o e, K, ρ, M => vE Γ o ρ M (fun x M1 => ∃ p xs, x = .ref p ∧ M1 p = some (.lst xs) ∧ vE Γ e ρ M1 (fun y M2 => ∃ ys zs, M2 p = some (.lst ys) ∧ seqL' M2 y = some zs ∧ ys.length + zs.length ≤ 16777216 ∧ K.nx ρ (updM M2 p (.lst (ys ++ zs)))) (fun c fs M2 => K.ex c fs ρ M2)) (fun c fs M1 => K.ex c fs ρ M1)
  | .setF o f e, K, ρ, M => vE Γ e ρ M (fun d M1 => vE Γ o ρ M1 (fun x M2 => ∃ p C fs, x = .ref p ∧ M2 p = some (.ins C fs) ∧ (C, f) ∈ Γ.fls ∧ fs.length < 1000 ∧ K.nx ρ (updM M2 p (.ins C (putFD f d fs)))) (fun c fs M2 => K.ex c fs ρ M2)) (fun c fs M1 => K.ex c fs ρ M1)
  | .augF o f op e, K, ρ, M => vE Γ o ρ M (fun x M1 => ∃ p C fs d, x = .ref p ∧ M1 p = some (.ins C fs) ∧ (C, f) ∈ Γ.fls ∧ fs.lookup f = some d ∧ vE Γ e ρ M1 (fun y M2 => ∃ z gs, augV op d y = some z ∧ M2 p = some (.ins C gs) ∧ gs.length < 1000 ∧ K.nx ρ (updM M2 p (.ins C (putFD f z gs)))) (fun c fs M2 => K.ex c fs ρ M2)) (fun c fs M1 => K.ex c fs ρ M1)
  | .rvs o, K, ρ, M => vE Γ o ρ M (fun x M1 => ∃ p xs, x = .ref p ∧ M1 p = some (.lst xs) ∧ K.nx ρ (updM M1 p (.lst xs.reverse))) (fun c fs M1 => K.ex c fs ρ M1)
  | .setT o es e, K, ρ, M => vE Γ e ρ M (fun d M1 => vE Γ o ρ M1 (fun x M2 => vEs Γ es ρ M2 (fun ds M3 => ∃ p kvs ks, x = .ref p ∧ M3 p = some (.dT kvs) ∧ keyL ds = some ks ∧ kvs.length < 16777216 ∧ ds.length ≤ 16777216 ∧ K.nx ρ (updM M3 p (.dT (putD kvs ks d)))) (fun c fs M2 => K.ex c fs ρ M2)) (fun c fs M2 => K.ex c fs ρ M2)) (fun c fs M1 => K.ex c fs ρ M1)
  | .pass, K, ρ, M => K.nx ρ M
  | .brk, K, ρ, M => K.bk ρ M
  | .cont, K, ρ, M => K.ct ρ M
  | .never, _, _, _ => False
  | .rais k es, K, ρ, M => vEs Γ es ρ M (fun ds M1 => ∃ g, Γ.xcs[k]? = some g ∧ g.n ≤ 1000 ∧ ds.length = g.n ∧ ∃ fs, g.flds ds = some fs ∧ K.ex (.ref g.cls) fs ρ M1) (fun c fs M1 => K.ex c fs ρ M1)
  | .tryAs body k i suite, K, ρ, M => vSs Γ body { K with ex := fun c fs ρ1 M1 => ∃ g b, Γ.xcs[k]? = some g ∧ ((c, g.cls), b) ∈ Γ.exm ∧ if b = true then ∀ a dd, (∀ p mo, M1 p = some mo → (∀ gs, mo ≠ .xd gs) → p ≠ dd) → vSs { Γ with xh := some (a, c, dd), fns := [], mks := [], mts := [], kms := [] } suite { nx := fun ρ' M' => K.nx (ρ'.set i none) M', rt := K.rt, bk := fun ρ' M' => K.bk (ρ'.set i none) M', ct := fun ρ' M' => K.ct (ρ'.set i none) M', ex := fun _ _ _ _ => False } (ρ1.set i (some (.ref a))) (updM M1 dd (.xd fs)) else K.ex c fs ρ1 M1 } ρ M
  | .pei o js, K, ρ, M => vE Γ o ρ M (fun x M1 => vJs Γ js 0 ρ M1 (fun M2 => ∃ a C f, x = .ref a ∧ (C, f) ∈ Γ.xfl ∧ M2 a = some (.exo a C none) ∧ K.nx ρ M2) (fun c fs M1 => K.ex c fs ρ M1)) (fun c fs M1 => K.ex c fs ρ M1)
  | .setX o f e, K, ρ, M => vE Γ e ρ M (fun d M1 => vE Γ o ρ M1 (fun x M2 => ∃ a C, x = .ref a ∧ (C, f) ∈ Γ.xfl ∧ ((M2 a = some (.exo a C none) ∧ ∀ dx, M2 dx = none → dx ≠ a → K.nx ρ (updM (updM M2 dx (.exd dx [(f, d)])) a (.exo a C (some dx)))) ∨ ∃ dx fs, M2 a = some (.exo a C (some dx)) ∧ M2 dx = some (.exd dx fs) ∧ fs.length ≤ 900 ∧ K.nx ρ (updM M2 dx (.exd dx ((f, d) :: fs))))) (fun c fs M2 => K.ex c fs ρ M2)) (fun c fs M1 => K.ex c fs ρ M1)
def vSs (Γ : Gam) : Ss → EndsD → Rho → Mo → Prop
  | .nil, K, ρ, M => K.nx ρ M
  | .cons s r, K, ρ, M => vS Γ s { K with nx := fun ρ1 M1 => vSs Γ r K ρ1 M1 } ρ M
  | .frz i r, K, ρ, M => ∃ p ds, ρ[i]? = some (some (.ref p)) ∧ M p = some (.lst ds) ∧ vSs Γ r K (ρ.set i (some (.lst ds))) (delM M p)
  | .frzF i f r, K, ρ, M => ∃ q C fs p kvs, ρ[i]? = some (some (.ref q)) ∧ M q = some (.ins C fs) ∧ fs.lookup f = some (.ref p) ∧ M p = some (.dK kvs) ∧ vSs Γ r K ρ (updM (delM M p) q (.ins C (putFD f (.dic (kvs.map (·.1)) (kvs.map (·.2))) fs)))
end
end Vp
namespace Vp
open PySem PySem.Spec PyProof.Rows L2

/-! ### defs by data -/
def spOf (K : PySem.W.Frag) (n : Nat) (con : Con) : Sp := fun vs H Q E => ∃ F M ds Q' X', Sat K F H M ∧ RepL K F vs ds ∧ ds.length = n ∧ con ds M Q' X' ∧ PV K F M H Q Q' ∧
  ∀ c fs M', X' c fs M' → ∀ F' H' d, Step K F M H F' M' H' → RepX K F' H H' d fs → E c d H'
/-- the def of that name keeps its promise -/
def FnIs (X : Cx) (k : Nat) (g : Fn) : Prop := ∃ f fd ps, FnOk X.prog X.w X.K X.mg X.base (L2N.CX X.prog X.w) k f fd ps (spOf X.K g.n g.con) ∧ X.mg g.name = some (.ref f) ∧ PySem.W.keepIn X.K (.ref f) = true ∧ Binds X.K fd ps []
/-- the class of that name is made by its __init__ -/
def MkIs (X : Cx) (k : Nat) (g : Cl) : Prop := ∃ j f fd ps, j + 1 ≤ k ∧ Mk X.K g.cls f ∧ FnOk X.prog X.w X.K X.mg X.base (L2N.CX X.prog X.w) j f fd ps (spOf X.K g.n g.con) ∧ X.mg g.name = some (.ref g.cls) ∧ Binds X.K fd ps []
/-- the class has that method -/
def MtIs (X : Cx) (k : Nat) (g : Cl) : Prop := ∃ f fd ps, Cls X.K g.cls ∧ Meth X.K g.cls g.name f ∧ FnOk X.prog X.w X.K X.mg X.base (L2N.CX X.prog X.w) k f fd ps (spOf X.K g.n g.con) ∧ Binds X.K fd ps []
def CsIs (X : Cx) (y : Str × D) : Prop := ∃ v u, X.mg y.1 = some u ∧ RelV v u ∧ ∀ F, Rep X.K F v y.2
/-- the class of that name is made by a call with keywords -/
def KmIs (X : Cx) (k : Nat) (g : Kc) : Prop := ∃ j f fd ps gf gV, j + 1 ≤ k ∧ Mk X.K g.cls f ∧ FnOk X.prog X.w X.K X.mg X.base (L2N.CX X.prog X.w) j f fd ps (spOf X.K g.n g.con) ∧ X.mg g.name = some (.ref g.cls) ∧ KBn X.K fd ps 1 g.ks gf gV ∧
  ∀ F x zs ds, ds.length = g.ks.length → RepL X.K F zs ds → RepL X.K F (gV [.ref x] zs) (.ref x :: g.arr ds) ∧ (.ref x :: g.arr ds : List D).length = g.n
/-- what an exception's __init__ does -/
def xcon (g : Xc) : Con := fun ds M Q _ => ∃ a es fs, ds = .ref a :: es ∧ M a = some (.exo a g.cls none) ∧ g.flds es = some fs ∧ ∀ d, M d = none → d ≠ a → Q .non (updM (updM M d (.exd d fs)) a (.exo a g.cls (some d)))
/-- the class of that name is one of exceptions -/
theorem takes0N {X : Cx} : L2N.Takes X (fun _ _ _ _ => False) := fun u s' x => by
  obtain ⟨_, _, _, _, _, _, _, _, _, _, _, _, _, _, _, _, z⟩ := x
  exact z.elim
/-- a def that may be called while an exception is handled -/
def HfIs (X : Cx) (k : Nat) (g : Fn) : Prop := ∃ f fd ps, L2H.FnH X.prog X.w X.K X.mg X.base (L2N.CX X.prog X.w) k f fd ps (spOf X.K g.n g.con) ∧ X.mg g.name = some (.ref f) ∧ PySem.W.keepIn X.K (.ref f) = true ∧ Binds X.K fd ps []
def XcIs (X : Cx) (k : Nat) (g : Xc) : Prop := ∃ j f fd ps, j + 1 ≤ k ∧ OexC X.K g.cls ∧ PySem.W.findIn X.K (.ref g.cls) "__init__" = some (some (.ref f)) ∧ PySem.W.typeIn X.K (.ref f) = some (.type "function") ∧
  FnOk X.prog X.w X.K X.mg X.base (L2N.CX X.prog X.w) j f fd ps (spOf X.K (g.n + 1) (xcon g)) ∧ X.mg g.name = some (.ref g.cls) ∧ Binds X.K fd ps []
/-- the class of that name stands above exceptions, without an __init__ of its own -/
def PeIs (X : Cx) (x : Str) : Prop := ∃ B mc, X.mg x = some (.ref B) ∧ PySem.W.specialIn X.K (.ref B) "__getattribute__" = some (some (.builtin "type.__getattribute__")) ∧ PySem.W.readsIn X.K B mc = true ∧ PySem.W.findCls X.K (.ref B) mc "__init__" = some (.val (.builtin "ValueError.__init__"))
/-- the dict of the text at that place -/
def KdIs (X : Cx) (y : Addr × List (Str × D)) : Prop := ∃ es n, KDict X.K X.w y.1 es n ∧ ∀ z : Str, (PySem.W.nsIn X.K y.1 z = some none ∧ y.2.lookup z = none) ∨ ∃ u v d, PySem.W.nsIn X.K y.1 z = some (some u) ∧ y.2.lookup z = some d ∧ RelV v u ∧ ∀ F, Rep X.K F v d
/-- where the code stands, as far as it is written -/
structure SC where
  N : List Str
  sc : Scope
  fnm : Str → Bool
  calm : Bool
  fns : List Str
  bis : List Str
  cs : List Str
  mks : List Str
  mts : List Str
  tb : Bool := false
  kms : List (Str × List Str) := []
  xcs : List Str := []
  pes : List Str := []
  hot : Bool := false
  xo : Bool := false
  hfs : List Str := []
structure XO (X : Cx) (Γ : Gam) (W : WX) (c : SC) : Prop where
  hN : X.N = c.N
  nd : c.N.Nodup
  sc : X.env.scope = c.sc
  fn : ∀ x, c.fnm x = true → X.fn x = true
  calm : c.calm = true → X.calm = true
  fns : c.fns ≠ [] → c.fns = Γ.fns.map (·.name)
  cs : c.cs = Γ.cs.map (·.1)
  mks : c.mks ≠ [] → c.mks = Γ.mks.map (·.name)
  mts : c.mts ≠ [] → c.mts = Γ.mts.map (·.name)
  csOk : ∀ y ∈ Γ.cs, CsIs X y
  fls : ∀ y ∈ Γ.fls, Cls X.K y.1 ∧ NoAttr X.K y.1 y.2
  bis : ∀ x ∈ c.bis, X.mg x = none
  tk : L2N.Takes X W
  po : PassesOwn (model X.prog X.w) X.A X.env X.xe
  room : ∃ k, (c.hot = false → Room k X.A) ∧ (c.fns ≠ [] → ∀ g ∈ Γ.fns, FnIs X k g) ∧ (c.mks ≠ [] → ∀ g ∈ Γ.mks, MkIs X k g) ∧ (c.mts ≠ [] → ∀ g ∈ Γ.mts, MtIs X k g) ∧ (c.kms ≠ [] → ∀ g ∈ Γ.kms, KmIs X k g) ∧ ∀ g ∈ Γ.xcs, XcIs X k g
  un : X.A.units + 200 < cLine
  hotn : c.hot = true → c.fns = [] ∧ c.mks = [] ∧ c.mts = [] ∧ c.kms = [] ∧ c.calm = false ∧ c.tb = false
  kms : c.kms ≠ [] → c.kms = Γ.kms.map fun g => (g.name, g.ks)
  xcs : c.xcs = Γ.xcs.map (·.name)
  xcm : ∀ g ∈ Γ.xcs, X.mg g.name = some (.ref g.cls)
  pes : c.pes = Γ.pes
  pesOk : ∀ x ∈ Γ.pes, PeIs X x
  exm : ∀ y ∈ Γ.exm, PySem.W.exmOne X.K y.1.1 (.ref y.1.2) = some y.2
  xfl : ∀ y ∈ Γ.xfl, XfC X.K y.1 ∧ PySem.W.findIn X.K (.ref y.1) y.2 = some none ∧ OexC X.K y.1
  kd : ∀ y ∈ Γ.kd, KdIs X y
  hfs : c.hfs ≠ [] → c.hfs = Γ.hfs.map (·.name) ∧ ∃ j, L2H.RoomH j X.A ∧ ∀ g ∈ Γ.hfs, HfIs X j g
  hotc : c.hfs ≠ [] → c.hot = true → L2H.HotC X
  xh : c.xo = true → ∀ a cls dd, Γ.xh = some (a, cls, dd) → ∃ (X0 : Cx) (oe : Obj) (pn : List (Addr × Obj)), X = X0.suite a ((a, oe) :: pn) ∧ L2N.Zn cls (some dd) oe ∧ ∃ vs, oe.data = .fields vs
  tb : c.tb = true → (∃ T cd, Γ.tb = some T ∧ X.env.code = .ref cd ∧ GxR.TabB X.base X.mg cd T) ∧ ∃ j, Room (j + 1) X.A ∧ (∀ g ∈ Γ.fns, FnIs X j g) ∧ (∀ g ∈ Γ.mks, MkIs X j g) ∧ (∀ g ∈ Γ.mts, MtIs X j g) ∧ (∀ g ∈ Γ.kms, KmIs X j g) ∧ ∀ g ∈ Γ.xcs, XcIs X j g

/-! ### what is seen in the text -/
def okNm (x : Str) : Bool := !(x == ("__debug__" : Str)) && (!(x == ("__classdict__" : Str)) && !decide (x = ("__name__" : Str)))
theorem okNm1 {x : Str} (h : okNm x = true) : (x == ("__debug__" : Str)) = false := by
  have := (Bool.and_eq_true_iff.mp h).1
  simpa using this
theorem okNm2 {x : Str} (h : okNm x = true) : (x == ("__classdict__" : Str)) = false := by
  have := (Bool.and_eq_true_iff.mp (Bool.and_eq_true_iff.mp h).2).1
  simpa using this
theorem okNm3 {x : Str} (h : okNm x = true) : x ≠ "__name__" := by
  have := (Bool.and_eq_true_iff.mp (Bool.and_eq_true_iff.mp h).2).2
  simpa using this
def visB (sc : Scope) (x : Str) : Bool := match sc.names.lookup x with | some .local => true | some .cell => true | some .free => true | _ => false
theorem visB_ok {sc : Scope} {x : Str} (h : visB sc x = true) : Vis sc x := by
  unfold visB at h
  split at h
  · exact .inl (by assumption)
  · exact .inr (.inl (by assumption))
  · exact .inr (.inr (by assumption))
  · cases h
def locB (sc : Scope) (fnm : Str → Bool) (x : Str) : Bool := match sc.names.lookup x with | some .local => true | some .cell => fnm x | _ => false
theorem locB_ok {sc : Scope} {fnm : Str → Bool} {x : Str} (h : locB sc fnm x = true) : Loc sc x ∧ (fnm x = true ∨ sc.names.lookup x = some .local) := by
  unfold locB at h
  split at h
  · exact ⟨.inl (by assumption), .inr (by assumption)⟩
  · exact ⟨.inr (by assumption), .inl h⟩
  · cases h
def glB (sc : Scope) (x : Str) : Bool := match sc.names.lookup x with | some .globalImplicit => true | _ => false
theorem glB_ok {X : Cx} {x : Str} (h : glB X.env.scope x = true) : Gl X x := by
  unfold glB at h
  split at h
  · assumption
  · cases h
def noStar : Expr → Bool | .Starred .. => false | _ => true
def noSet : Expr → Bool | .Set .. => false | _ => true
def noCut : Expr → Bool | .ListComp .. => false | .SetComp .. => false | .DictComp .. => false | _ => true
def plainT : Expr → Bool | .UnaryOp .Not _ _ => false | .BoolOp .. => false | .IfExp .. => false | .Compare .. => false | _ => true
def plainI : Expr → Bool | .Slice .. => false | _ => true
def attrOk : Expr → Bool | .Call _ [] _ _ => false | _ => true
theorem star_cons {e : Expr} (h : noStar e = true) {es : List Expr} {env : Env} : starEach (e :: es) env = (false, eval e env) :: starEach es env := by
  cases e <;> first | rfl | cases h
theorem star_any {env : Env} {pos : Pos} : ∀ {es : List Expr}, es.all noStar = true → (backTo pos (starEach es env)).any (·.1) = false
  | [], _ => rfl
  | e :: es, h => by
    obtain ⟨h1, h2⟩ := Bool.and_eq_true_iff.mp (by simpa using h : (noStar e && es.all noStar) = true)
    rw [star_cons h1]
    show (false || (backTo pos (starEach es env)).any (·.1)) = false
    rw [star_any h2]; rfl
theorem noSet_behind {e : Expr} (h : noSet e = true) {op : CmpOp} : behindInMarks op e = false := by
  cases e <;> first | rfl | cases h
theorem noSet_fold {e : Expr} (h : noSet e = true) {env : Env} : ∀ x, foldedSetIterable e env x = pure x := by
  intro x
  cases e <;> first | rfl | cases h
theorem noCut_swaps {e : Expr} (h : noCut e = true) {t : Option Expr} {l : Nat} {env : Env} : swapsWith e t l env = pure false := by
  cases e <;> first | rfl | cases h
theorem plainT_ok {e : Expr} (h : plainT e = true) {env : Env} (whole : Sem Value) : isTrue e env whole = (do let v ← whole; standAt e.pos; holding [v] (truthy v)) := by
  cases e with
  | UnaryOp op a p => cases op <;> first | rfl | cases h
  | BoolOp _ _ _ => cases h
  | IfExp _ _ _ _ => cases h
  | Compare _ _ _ _ => cases h
  | _ => rfl
theorem plainI_ok {e : Expr} (h : plainI e = true) : PlainIx e := by
  intro o i
  cases e <;> first | rfl | cases h
theorem attrOk_ok {e : Expr} (h : attrOk e = true) {n : Str} {env : Env} {w : Sem Value} : attributeBase e n env w = w := by
  cases e with
  | Call f args kws p =>
    cases args with
    | nil => cases h
    | cons a r => cases f <;> rfl
  | _ => rfl
def tyOk (x : Str) (T : String) : Bool := (decide (x = ("int" : Str)) && decide (T = "int")) || (decide (x = ("bool" : Str)) && decide (T = "bool")) || (decide (x = ("str" : Str)) && decide (T = "str")) || (decide (x = ("tuple" : Str)) && decide (T = "tuple")) || (decide (x = ("list" : Str)) && decide (T = "list")) || (decide (x = ("dict" : Str)) && decide (T = "dict"))
theorem tyOk_ok {x : Str} {T : String} (h : tyOk x T = true) : bootBuiltins x = some (.type T) := by
  simp only [tyOk, Bool.or_eq_true, Bool.and_eq_true, decide_eq_true_eq] at h
  rcases h with ((((⟨rfl, rfl⟩ | ⟨rfl, rfl⟩) | ⟨rfl, rfl⟩) | ⟨rfl, rfl⟩) | ⟨rfl, rfl⟩) | ⟨rfl, rfl⟩ <;> decide +kernel
def isTupE : Expr → Bool | .Tuple .. => true | _ => false
def ownOf (N : List Str) (is : List Nat) : List (Str × Nat) := is.filterMap fun i => (N[i]?).map fun x => (x, i)
mutual
def isTg (c : SC) : Tg → Expr → Bool
  | .nm i, .Name x _ => decide (c.N[i]? = some x) && locB c.sc c.fnm x
  | .tup ts, .Tuple es _ _ => c.calm && isTgs c ts es
  | _, _ => false
def isTgs (c : SC) : Tgs → List Expr → Bool
  | .nil, [] => true
  | .cons t r, e :: es => isTg c t e && isTgs c r es
  | _, _ => false
end
def andTail (op : BoolOp) (y : Expr) (r : List Expr) (p : Pos) : Expr := match r with | [] => y | _ :: _ => .BoolOp op (y :: r) p
/-- the block of a comprehension -/
def SC.blk (c : SC) (scope : Scope) : SC := { c with sc := relS scope c.sc, fnm := fun x => scope.names.lookup x == some .cell, tb := false, xo := false, hfs := [] }
/-- .. that keeps what is pinned -/
def SC.blkP (c : SC) (scope : Scope) : SC := { c with sc := relS scope c.sc, fnm := fun x => scope.names.lookup x == some .cell, tb := false, xo := false }
/-- the frame of a generator expression -/
def SC.gen (c : SC) (scope : Scope) : SC := { c with sc := scope, fnm := fun _ => false, tb := false, xo := false, hfs := [] }
def genSB (scope : Scope) (x : Str) : Bool := decide (scope.kind = .function) && (!scope.isCoroutine && (scope.names.all (fun y => decide (y.2 ≠ .cell)) && (decide (scope.names.lookup (".0" : Str) = some .local) && decide (scope.names.lookup x = some .local))))
/-- an except suite -/
def SC.suite (c : SC) : SC := { c with calm := false, hot := true, xo := true, fns := [], mks := [], mts := [], kms := [], tb := false }
def noLst : Expr → Bool | .List .. => false | _ => true
def dAllG : Expr → Option (Str × Expr × Str × Expr × Scope) | .Call (.Name n _) [.GeneratorExp u [⟨.Name x _, i, [], 0⟩] sc _] [] _ => some (n, u, x, i, sc) | _ => none
theorem dAllG_inv {e u i : Expr} {n x : Str} {sc : Scope} (h : dAllG e = some (n, u, x, i, sc)) : ∃ q px g p, e = .Call (.Name n q) [.GeneratorExp u [⟨.Name x px, i, [], 0⟩] sc g] [] p := by
  unfold dAllG at h
  split at h
  · cases h; exact ⟨_, _, _, _, rfl⟩
  · cases h
/-- the name of a comprehension's only target, seen from the generator's frame -/
def gtg (x : Str) : Expr := .Name x default
def dName : Expr → Option Str | .Name x _ => some x | _ => none
theorem dName_inv {e : Expr} {x : Str} (h : dName e = some x) : ∃ p, e = .Name x p := by
  cases e <;> first | (cases h; done) | (cases h; exact ⟨_, rfl⟩)
def dConst : Expr → Option Const | .Constant k _ _ => some k | _ => none
theorem dConst_inv {e : Expr} {x : Const} (h : dConst e = some x) : ∃ k p, e = .Constant x k p := by
  cases e <;> first | (cases h; done) | (cases h; exact ⟨_, _, rfl⟩)
def dBin : Expr → Option (Expr × Operator × Expr) | .BinOp a o b _ => some (a, o, b) | _ => none
theorem dBin_inv {e a b : Expr} {o : Operator} (h : dBin e = some (a, o, b)) : ∃ p, e = .BinOp a o b p := by
  cases e <;> first | (cases h; done) | (cases h; exact ⟨_, rfl⟩)
def dUn : Expr → Option (UnaryOp × Expr) | .UnaryOp o a _ => some (o, a) | _ => none
theorem dUn_inv {e a : Expr} {o : UnaryOp} (h : dUn e = some (o, a)) : ∃ p, e = .UnaryOp o a p := by
  cases e <;> first | (cases h; done) | (cases h; exact ⟨_, rfl⟩)
def dCmp : Expr → Option (Expr × List CmpOp × List Expr) | .Compare a o b _ => some (a, o, b) | _ => none
theorem dCmp_inv {e a : Expr} {o : List CmpOp} {b : List Expr} (h : dCmp e = some (a, o, b)) : ∃ p, e = .Compare a o b p := by
  cases e <;> first | (cases h; done) | (cases h; exact ⟨_, rfl⟩)
def dBool : Expr → Option (BoolOp × Expr × Expr) | .BoolOp op (x :: y :: r) p => some (op, x, andTail op y r p) | _ => none
theorem dBool_inv {e x z : Expr} {op : BoolOp} (h : dBool e = some (op, x, z)) : ∃ y r p, e = .BoolOp op (x :: y :: r) p ∧ z = andTail op y r p := by
  cases e with
  | BoolOp o vs p =>
    rcases vs with _ | ⟨u, _ | ⟨v, r⟩⟩
    · cases h
    · cases h
    · cases h; exact ⟨_, _, _, rfl, rfl⟩
  | _ => cases h
def dIf : Expr → Option (Expr × Expr × Expr) | .IfExp a b c _ => some (a, b, c) | _ => none
theorem dIf_inv {e a b c : Expr} (h : dIf e = some (a, b, c)) : ∃ p, e = .IfExp a b c p := by
  cases e <;> first | (cases h; done) | (cases h; exact ⟨_, rfl⟩)
def dTup : Expr → Option (List Expr) | .Tuple a _ _ => some a | _ => none
theorem dTup_inv {e : Expr} {a : List Expr} (h : dTup e = some a) : ∃ k p, e = .Tuple a k p := by
  cases e <;> first | (cases h; done) | (cases h; exact ⟨_, _, rfl⟩)
def dLst : Expr → Option (List Expr) | .List a _ => some a | _ => none
theorem dLst_inv {e : Expr} {a : List Expr} (h : dLst e = some a) : ∃ p, e = .List a p := by
  cases e <;> first | (cases h; done) | (cases h; exact ⟨_, rfl⟩)
def dCall : Expr → Option (Str × List Expr) | .Call (.Name x _) a [] _ => some (x, a) | _ => none
theorem dCall_inv {e : Expr} {x : Str} {a : List Expr} (h : dCall e = some (x, a)) : ∃ q p, e = .Call (.Name x q) a [] p := by
  cases e with
  | Call f as kw p =>
    cases kw with
    | nil => cases f <;> first | (cases h; done) | (cases h; exact ⟨_, _, rfl⟩)
    | cons _ _ => cases f <;> cases h
  | _ => cases h
def dSub : Expr → Option (Expr × Expr) | .Subscript a b _ => some (a, b) | _ => none
theorem dSub_inv {e a b : Expr} (h : dSub e = some (a, b)) : ∃ p, e = .Subscript a b p := by
  cases e <;> first | (cases h; done) | (cases h; exact ⟨_, rfl⟩)
def dComp : Expr → Option (Expr × Expr × Expr × List Expr × Scope) | .ListComp x [⟨t, i, ifs, 0⟩] sc _ => some (x, t, i, ifs, sc) | _ => none
theorem dComp_inv {e x t i : Expr} {ifs : List Expr} {sc : Scope} (h : dComp e = some (x, t, i, ifs, sc)) : ∃ p, e = .ListComp x [⟨t, i, ifs, 0⟩] sc p := by
  cases e with
  | ListComp a gs s p =>
    unfold dComp at h
    split at h
    · rename_i heq
      cases heq
      cases h
      exact ⟨_, rfl⟩
    · cases h
  | _ => cases h
def methOk : Expr → Bool | .Name .. => true | .Attribute .. => true | _ => false
def dComp2 : Expr → Option (Expr × Expr × Expr × List Expr × Expr × Expr × List Expr × Scope) | .ListComp x [⟨t, i, ifs, 0⟩, ⟨t1, i1, ifs1, 0⟩] sc _ => some (x, t, i, ifs, t1, i1, ifs1, sc) | _ => none
theorem dComp2_inv {e x t i t1 i1 : Expr} {ifs ifs1 : List Expr} {sc : Scope} (h : dComp2 e = some (x, t, i, ifs, t1, i1, ifs1, sc)) : ∃ p, e = .ListComp x [⟨t, i, ifs, 0⟩, ⟨t1, i1, ifs1, 0⟩] sc p := by
  cases e with
  | ListComp a gs s p =>
    unfold dComp2 at h
    split at h
    · rename_i heq
      cases heq
      cases h
      exact ⟨_, rfl⟩
    · cases h
  | _ => cases h
def dDisp1 : Expr → Option (Expr × Expr) | .Dict [some k] [v] _ => some (k, v) | _ => none
theorem dDisp1_inv {e k v : Expr} (h : dDisp1 e = some (k, v)) : ∃ p, e = .Dict [some k] [v] p := by
  unfold dDisp1 at h
  split at h
  · cases h; exact ⟨_, rfl⟩
  · cases h
def dSetC2 : Stmt → Option (Str × Expr × Expr × Expr × List Expr × Expr × Expr × List Expr × Scope × Bool)
  | .Assign [.Name y py] (.ListComp x [⟨t, i, ifs, 0⟩, ⟨t1, i1, ifs1, 0⟩] sc p) _ => some (y, x, t, i, ifs, t1, i1, ifs1, sc, (py.line == p.line) && !(sc.names.any fun (n, k) => n == y && (k == .local || k == .cell)))
  | _ => none
theorem dSetC2_inv {s : Stmt} {y : Str} {x t i t1 i1 : Expr} {ifs ifs1 : List Expr} {sc : Scope} (h : dSetC2 s = some (y, x, t, i, ifs, t1, i1, ifs1, sc, true)) :
    ∃ py p q, s = .Assign [.Name y py] (.ListComp x [⟨t, i, ifs, 0⟩, ⟨t1, i1, ifs1, 0⟩] sc p) q ∧ (py.line == p.line) = true ∧ (sc.names.any fun (n, k) => n == y && (k == .local || k == .cell)) = false := by
  unfold dSetC2 at h
  split at h
  · injection h with h
    injection h with e1 h; injection h with e2 h; injection h with e3 h; injection h with e4 h; injection h with e5 h; injection h with e6 h; injection h with e7 h; injection h with e8 h; injection h with e9 h
    subst e1 e2 e3 e4 e5 e6 e7 e8 e9
    obtain ⟨a, b⟩ := Bool.and_eq_true_iff.mp h
    exact ⟨_, _, _, rfl, a, by simpa using b⟩
  · cases h
def dSlice : Expr → Option (Option Expr × Option Expr) | .Slice lo hi none _ => some (lo, hi) | _ => none
theorem dSlice_inv {e : Expr} {lo hi : Option Expr} (h : dSlice e = some (lo, hi)) : ∃ p, e = .Slice lo hi none p := by
  cases e with
  | Slice a b c p => cases c <;> first | (cases h; done) | (cases h; exact ⟨_, rfl⟩)
  | _ => cases h
def dAttr : Expr → Option (Expr × Str) | .Attribute o f _ => some (o, f) | _ => none
theorem dAttr_inv {e o : Expr} {f : Str} (h : dAttr e = some (o, f)) : ∃ p, e = .Attribute o f p := by
  cases e <;> first | (cases h; done) | (cases h; exact ⟨_, rfl⟩)
def dDict0 : Expr → Bool | .Dict [] [] _ => true | _ => false
theorem dDict0_inv {e : Expr} (h : dDict0 e = true) : ∃ p, e = .Dict [] [] p := by
  cases e with
  | Dict a b p => cases a <;> cases b <;> first | (cases h; done) | exact ⟨_, rfl⟩
  | _ => cases h
def dMeth : Expr → Option (Expr × Str × List Expr × Bool) | .Call (.Attribute o m ap) as [] cp => some (o, m, as, ap.endLine == cp.line) | _ => none
theorem dMeth_inv {e o : Expr} {m : Str} {as : List Expr} {b : Bool} (h : dMeth e = some (o, m, as, b)) : ∃ ap cp, e = .Call (.Attribute o m ap) as [] cp ∧ (ap.endLine == cp.line) = b := by
  cases e with
  | Call f as kw p =>
    cases kw with
    | nil => cases f <;> first | (cases h; done) | (cases h; exact ⟨_, _, rfl, rfl⟩)
    | cons _ _ => cases f <;> cases h
  | _ => cases h
def dCallK : Expr → Option (Str × List Keyword) | .Call (.Name x _) [] kws _ => some (x, kws) | _ => none
theorem dCallK_inv {e : Expr} {x : Str} {a : List Keyword} (h : dCallK e = some (x, a)) : ∃ q p, e = .Call (.Name x q) [] a p := by
  unfold dCallK at h
  split at h
  · cases h; exact ⟨_, _, rfl⟩
  · cases h
def kwNames : List Keyword → List Str
  | [] => []
  | k :: r => (match k.arg with | some n => [n] | none => []) ++ kwNames r
def dListV : Expr → Option (Str × Expr × Bool) | .Call (.Name n _) [.Call (.Attribute o m ap) [] [] cp] [] _ => some (n, o, decide (m = ("values" : Str)) && (ap.endLine == cp.line)) | _ => none
theorem dListV_inv {e o : Expr} {n : Str} (h : dListV e = some (n, o, true)) : ∃ q ap cp p, e = .Call (.Name n q) [.Call (.Attribute o "values" ap) [] [] cp] [] p ∧ (ap.endLine == cp.line) = true := by
  unfold dListV at h
  split at h
  · injection h with h; injection h with e1 h; injection h with e2 h
    subst e1 e2
    obtain ⟨a, b⟩ := Bool.and_eq_true_iff.mp h
    obtain rfl := of_decide_eq_true a
    exact ⟨_, _, _, _, rfl, b⟩
  · cases h
def dDcomp : Expr → Option (Expr × Expr × Expr × Expr × Scope) | .DictComp k v [⟨t, i, [], 0⟩] sc _ => some (k, v, t, i, sc) | _ => none
theorem dDcomp_inv {e k v t i : Expr} {sc : Scope} (h : dDcomp e = some (k, v, t, i, sc)) : ∃ p, e = .DictComp k v [⟨t, i, [], 0⟩] sc p := by
  unfold dDcomp at h
  split at h
  · cases h; exact ⟨_, rfl⟩
  · cases h
mutual
def isE (c : SC) : E → Expr → Bool
  | .var i, e => match dName e with | some x => decide (c.N[i]? = some x) && (visB c.sc x && okNm x) | none => false
  | .cint i, e => match dConst e with | some k => decide (k = .int i) | none => false
  | .cstr x, e => match dConst e with | some k => decide (k = .str x) | none => false
  | .cbl b, e => match dConst e with | some k => decide (k = .bool b) | none => false
  | .cnon, e => match dConst e with | some k => decide (k = .none) | none => false
  | .cty T, e => match dName e with | some x => glB c.sc x && (decide (x ∈ c.bis) && (okNm x && tyOk x T)) | none => false
  | .bin op a b, e => match dBin e with | some (x, o, y) => decide (o = op) && (supB op && (isE c a x && isE c b y)) | none => false
  | .neg a, e => match dUn e with | some (o, x) => decide (o = .USub) && isE c a x | none => false
  | .cmp op a b, e => match dCmp e with | some (x, [o], [y]) => decide (o = op) && (supC op && (noSet y && (isE c a x && isE c b y))) | _ => false
  | .chain op op' a b d, e => match dCmp e with | some (x, [o, o'], [y, z]) => decide (o = op) && (decide (o' = op') && (supC op && (supC op' && (noSet y && (noSet z && (isE c a x && (isE c b y && isE c d z))))))) | _ => false
  | .and a b, e => match dBool e with | some (o, x, y) => decide (o = .And) && (isE c a x && isE c b y) | none => false
  | .or a b, e => match dBool e with | some (o, x, y) => decide (o = .Or) && (isE c a x && isE c b y) | none => false
  | .not a, e => match dUn e with | some (o, x) => decide (o = .Not) && isE c a x | none => false
  | .ite t a b, e => match dIf e with | some (u, x, y) => isT c t u && (isE c a x && isE c b y) | none => false
  | .tup es, e => match dTup e with | some xs => isEs c es xs | none => false
  | .lst _ es, e => match dLst e with | some xs => isEs c es xs | none => false
  | .call k es, e => match dCall e with | some (x, ys) => decide (c.fns[k]? = some x) && (glB c.sc x && (okNm x && (!ys.isEmpty && isEs c es ys))) | none => false
  | .bi b es, e => match dCall e with | some (x, ys) => decide (x = b.name) && (c.calm && (decide (x ∈ c.bis) && (glB c.sc x && (okNm x && (!ys.isEmpty && isEs c es ys))))) | none => false
  | .ix a b, e => match dSub e with | some (x, y) => plainI y && (isE c a x && isE c b y) | none => false
  | .callH k es, e => match dCall e with | some (x, ys) => c.hot && (decide (c.hfs[k]? = some x) && (glB c.sc x && (okNm x && (!ys.isEmpty && isEs c es ys)))) | none => false
  | .biN b es, e => match dCall e with | some (x, ys) => decide (x = b.name) && ((decide (b = .isinst) || (decide (b = .len) || (decide (b = .all) && (c.hot && !c.hfs.isEmpty)))) && (decide (x ∈ c.bis) && (glB c.sc x && (okNm x && (!ys.isEmpty && isEs c es ys))))) | none => false
  | .compH elt tg e', e => match dComp e with
    | some (x, t, .Call (.Name n _) [y] [] _, [], scope) => c.hot && (!c.hfs.isEmpty && (decide (n = ("range" : Str)) && (decide (n ∈ c.bis) && (glB c.sc n && (noStar y && (isE c e' y && (blkC c.N c.sc scope (ownOf c.N (slotsT tg)) && (decide ((ownOf c.N (slotsT tg)).map (·.2) = slotsT tg) && (isTg (c.blkP scope) tg t && isE (c.blkP scope) elt x)))))))))
    | _ => false
  | .comp _ elt tg it cond, e => match dComp e with
    | some (x, t, i, ifs, scope) => c.calm && (noSet i && (isI c it t i && (blkC c.N c.sc scope (ownOf c.N (slotsT tg)) && (decide ((ownOf c.N (slotsT tg)).map (·.2) = slotsT tg) && (isTg (c.blk scope) tg t && (isTo (c.blk scope) cond ifs && isE (c.blk scope) elt x))))))
    | none => false
  | .sl a lo hi, e => match dSub e with
    | some (x, y) => (match dSlice y with | some (l, h) => isE c a x && (isEo c lo l && isEo c hi h) | none => false)
    | none => false
  | .isin neg a b, e => match dCmp e with | some (x, [o], [y]) => decide (o = if neg then .NotIn else .In) && (noSet y && (isE c a x && isE c b y)) | _ => false
  | .glob k, e => match dName e with | some x => decide (c.cs[k]? = some x) && (glB c.sc x && okNm x) | none => false
  | .dnew, e => dDict0 e
  | .get1 o k, e => match dMeth e with | some (x, m, [y], b) => decide (m = ("get" : Str)) && (b && (attrOk x && (noStar y && (isE c o x && isE c k y)))) | _ => false
  | .get2 o k d, e => match dMeth e with | some (x, m, [y, z], b) => decide (m = ("get" : Str)) && (b && (attrOk x && (noStar y && (noStar z && (isE c o x && (isE c k y && isE c d z)))))) | _ => false
  | .comp2 _ elt tg it cond tg1 it1 cond1, e => match dComp2 e with
    | some (x, t, i, ifs, t1, i1, ifs1, scope) => c.calm && (noSet i && (noSet i1 && (isI c it t i && (blkC c.N c.sc scope (ownOf c.N (slotsT tg ++ slotsT tg1)) && (decide ((ownOf c.N (slotsT tg ++ slotsT tg1)).map (·.2) = slotsT tg ++ slotsT tg1) && (isTg (c.blk scope) tg t && (isTo (c.blk scope) cond ifs && (isI (c.blk scope) it1 t1 i1 && (isTg (c.blk scope) tg1 t1 && (isTo (c.blk scope) cond1 ifs1 && isE (c.blk scope) elt x))))))))))
    | none => false
  | .ddisp k v, e => match dDisp1 e with | some (x, y) => isE c k x && isE c v y | none => false
  | .callv i es, e => match dCall e with | some (x, ys) => !c.fns.isEmpty && (decide (c.N[i]? = some x) && (visB c.sc x && (okNm x && (!ys.isEmpty && isEs c es ys)))) | none => false
  | .fld o f, e => match dAttr e with | some (x, g) => decide (g = f) && (attrOk x && isE c o x) | none => false
  | .make k es, e => match dCall e with | some (x, ys) => decide (c.mks[k]? = some x) && (glB c.sc x && (okNm x && isEs c es ys)) | none => false
  | .meth k o es, e => match dMeth e with | some (x, m, ys, b) => decide (c.mts[k]? = some m) && (b && (decide (ys.length < 30) && (attrOk x && (isE c o x && isEs c es ys)))) | none => false
  | .allg i elt it, e => match dAllG e with
    | some (n, u, x, y, scope) => decide (n = ("all" : Str)) && (c.tb && (c.calm && (decide (n ∈ c.bis) && (glB c.sc n && (noSet y && (noLst y && (isI c it (gtg x) y && (blkC c.N c.sc scope (ownOf c.N [i]) && (decide ((ownOf c.N [i]).map (·.2) = [i]) && (genSB scope x && (decide (c.N[i]? = some x) && isE (c.gen scope) elt u)))))))))))
    | none => false
  | .rep _ es b, e => match dBin e with | some (x, o, y) => decide (o = .Mult) && (match dLst x with | some xs => isEs c es xs && isE c b y | none => false) | none => false
  | .bor _ e, x => isE c e x
  | .ixT o es, e => match dSub e with | some (x, y) => (match dTup y with | some ys => isE c o x && isEs c es ys | none => false) | none => false
  | .dnewT, e => dDict0 e
  | .pop o, e => match dMeth e with | some (x, m, [], b) => decide (m = ("pop" : Str)) && (b && (attrOk x && isE c o x)) | _ => false
  | .idx o x k, e => match dMeth e with | some (u, m, [y, z], b) => decide (m = ("index" : Str)) && (b && (attrOk u && (noStar y && (noStar z && (isE c o u && (isE c x y && isE c k z)))))) | _ => false
  | .xfld o f, e => match dAttr e with | some (x, g) => c.xo && (decide (g = f) && (attrOk x && isE c o x)) | none => false
  | .kget o k, e => match dMeth e with | some (x, m, [y], b) => decide (m = ("get" : Str)) && (b && (attrOk x && (noStar y && (isE c o x && isE c k y)))) | _ => false
  | .makek k es, e => match dCallK e with | some (x, kws) => decide (c.kms[k]? = some (x, kwNames kws)) && (glB c.sc x && (okNm x && isKs c es kws)) | none => false
  | .tx1 k o x, e => match dMeth e with | some (u, m, [y], b) => decide (m = (if k = true then "count" else "rfind" : Str)) && (b && (attrOk u && (noStar y && (isE c o u && isE c x y)))) | _ => false
  | .find3 o x k, e => match dMeth e with | some (u, m, [y, z], b) => decide (m = ("find" : Str)) && (b && (attrOk u && (noStar y && (noStar z && (isE c o u && (isE c x y && isE c k z)))))) | _ => false
  | .split o x, e => match dMeth e with | some (u, m, [y], b) => decide (m = ("split" : Str)) && (b && (attrOk u && (noStar y && (isE c o u && isE c x y)))) | _ => false
  | .join o x, e => match dMeth e with | some (u, m, [y], b) => decide (m = ("join" : Str)) && (b && (attrOk u && (noStar y && (isE c o u && isE c x y)))) | _ => false
  | .lvals o, e => match dListV e with | some (n, x, true) => decide (n = ("list" : Str)) && (c.calm && (decide (n ∈ c.bis) && (glB c.sc n && (attrOk x && isE c o x)))) | _ => false
  | .dcomp k v tg it, e => match dDcomp e with
    | some (x, y, t, i, scope) => c.calm && (noSet i && (isI c it t i && (blkC c.N c.sc scope (ownOf c.N (slotsT tg)) && (decide ((ownOf c.N (slotsT tg)).map (·.2) = slotsT tg) && (isTg (c.blk scope) tg t && (isE (c.blk scope) k x && isE (c.blk scope) v y))))))
    | none => false
def isKs (c : SC) : Es → List Keyword → Bool
  | .nil, es => match es with | [] => true | _ :: _ => false
  | .cons e r, es => match es with | [] => false | x :: xs => x.arg.isSome && (isE c e x.value && isKs c r xs)
def isEo (c : SC) : Eo → Option Expr → Bool
  | .none, x => match x with | none => true | some _ => false
  | .some e, x => match x with | none => false | some y => isE c e y
def isEs (c : SC) : Es → List Expr → Bool
  | .nil, es => match es with | [] => true | _ :: _ => false
  | .cons e r, es => match es with | [] => false | x :: xs => noStar x && (isE c e x && isEs c r xs)
def isT (c : SC) : T → Expr → Bool
  | .tr e, x => plainT x && isE c e x
  | .isin neg a b, e => match dCmp e with | some (x, [o], [y]) => decide (o = if neg then .NotIn else .In) && (noSet y && (isE c a x && isE c b y)) | _ => false
  | .cmp op a b, e => match dCmp e with | some (x, [o], [y]) => decide (o = op) && (supC op && (noSet y && (isE c a x && isE c b y))) | _ => false
  | .chain op op' a b d, e => match dCmp e with | some (x, [o, o'], [y, z]) => decide (o = op) && (decide (o' = op') && (supC op && (supC op' && (noSet y && (noSet z && (isE c a x && (isE c b y && isE c d z))))))) | _ => false
  | .and a b, e => match dBool e with | some (o, x, y) => decide (o = .And) && (isT c a x && isT c b y) | none => false
  | .or a b, e => match dBool e with | some (o, x, y) => decide (o = .Or) && (isT c a x && isT c b y) | none => false
  | .not a, e => match dUn e with | some (o, x) => decide (o = .Not) && isT c a x | none => false
  | .bor t, e => isT c t e
def isTo (c : SC) : To → List Expr → Bool
  | .none, es => match es with | [] => true | _ :: _ => false
  | .some t, es => match es with | [x] => isT c t x | _ => false
def isI (c : SC) : I → Expr → Expr → Bool
  | .seq e, _, x => isE c e x
  | .range1 e, _, x => match dCall x with | some (n, [y]) => decide (n = ("range" : Str)) && (decide (n ∈ c.bis) && (glB c.sc n && (noStar y && isE c e y))) | _ => false
  | .range2 a b, _, x => match dCall x with | some (n, [y, z]) => decide (n = ("range" : Str)) && (decide (n ∈ c.bis) && (glB c.sc n && (noStar y && (noStar z && (isE c a y && isE c b z))))) | _ => false
  | .zip a b, t, x => match dCall x with | some (n, [y, z]) => (dTup t).isSome && (decide (n = ("zip" : Str)) && (decide (n ∈ c.bis) && (glB c.sc n && (noStar y && (noStar z && (isE c a y && isE c b z)))))) | _ => false
  | .enum e, t, x => match dCall x with | some (n, [y]) => (dTup t).isSome && (decide (n = ("enumerate" : Str)) && (decide (n ∈ c.bis) && (glB c.sc n && (noStar y && isE c e y)))) | _ => false
  | .chars e, _, x => isE c e x
  | .rev e, _, x => match dCall x with | some (n, [y]) => decide (n = ("reversed" : Str)) && (decide (n ∈ c.bis) && (glB c.sc n && (noStar y && isE c e y))) | _ => false
  | .range3 a b d, _, x => match dCall x with | some (n, [y, z, w]) => decide (n = ("range" : Str)) && (decide (n ∈ c.bis) && (glB c.sc n && (noStar y && (noStar z && (noStar w && (isE c a y && (isE c b z && isE c d w))))))) | _ => false
  | .enumK e, t, x => match dCall x with | some (n, [y]) => (dTup t).isSome && (decide (n = ("enumerate" : Str)) && (decide (n ∈ c.bis) && (glB c.sc n && (noStar y && isE c e y)))) | _ => false
  | .items o, t, x => match dMeth x with | some (y, m, [], b) => (dTup t).isSome && (decide (m = ("items" : Str)) && (b && (attrOk y && isE c o y))) | _ => false
  | .keys o, _, x => isE c o x
end
/-! ### statements -/
def supA : Operator → Bool | .Add | .Sub | .Mult => true | _ => false
def parOk : Expr → Expr → Bool
  | .Tuple .., .Tuple .. => false | .List .., .Tuple .. => false | _, _ => true
def dApp : Expr → Option (Expr × Expr) | .Call (.Attribute o m ap) [e] [] cp => if decide (m = ("append" : Str)) && (ap.endLine == cp.line) then some (o, e) else none | _ => none
theorem dApp_inv {x o e : Expr} (h : dApp x = some (o, e)) : ∃ ap cp, x = .Call (.Attribute o "append" ap) [e] [] cp ∧ (ap.endLine == cp.line) = true := by
  unfold dApp at h
  split at h
  · split at h
    · rename_i hz
      obtain ⟨z1, z2⟩ := Bool.and_eq_true_iff.mp hz
      obtain rfl := of_decide_eq_true z1
      cases h
      exact ⟨_, _, rfl, z2⟩
    · cases h
  · cases h
def dExpr : Stmt → Option Expr | .Expr e _ => some e | _ => none
theorem dExpr_inv {s : Stmt} {e : Expr} (h : dExpr s = some e) : ∃ p, s = .Expr e p := by
  cases s <;> first | (cases h; done) | (cases h; exact ⟨_, rfl⟩)
def dAsg : Stmt → Option (Expr × Expr) | .Assign [t] e _ => some (t, e) | _ => none
theorem dAsg_inv {s : Stmt} {t e : Expr} (h : dAsg s = some (t, e)) : ∃ p, s = .Assign [t] e p := by
  cases s with
  | Assign ts v p =>
    rcases ts with _ | ⟨a, _ | ⟨b, r⟩⟩
    · cases h
    · cases h; exact ⟨_, rfl⟩
    · cases h
  | _ => cases h
def dAug : Stmt → Option (Str × Operator × Expr) | .AugAssign (.Name x _) o e _ => some (x, o, e) | _ => none
theorem dAug_inv {s : Stmt} {x : Str} {o : Operator} {e : Expr} (h : dAug s = some (x, o, e)) : ∃ q p, s = .AugAssign (.Name x q) o e p := by
  cases s with
  | AugAssign t o v p => cases t <;> first | (cases h; done) | (cases h; exact ⟨_, _, rfl⟩)
  | _ => cases h
def dRet : Stmt → Option (Option Expr) | .Return e _ => some e | _ => none
theorem dRet_inv {s : Stmt} {e : Option Expr} (h : dRet s = some e) : ∃ p, s = .Return e p := by
  cases s <;> first | (cases h; done) | (cases h; exact ⟨_, rfl⟩)
def dIfS : Stmt → Option (Expr × List Stmt × List Stmt) | .If t a b _ => some (t, a, b) | _ => none
theorem dIfS_inv {s : Stmt} {t : Expr} {a b : List Stmt} (h : dIfS s = some (t, a, b)) : ∃ p, s = .If t a b p := by
  cases s <;> first | (cases h; done) | (cases h; exact ⟨_, rfl⟩)
def dFor : Stmt → Option (Expr × Expr × List Stmt) | .For t i b [] _ => some (t, i, b) | _ => none
theorem dFor_inv {s : Stmt} {t i : Expr} {b : List Stmt} (h : dFor s = some (t, i, b)) : ∃ p, s = .For t i b [] p := by
  cases s with
  | For t i b o p => cases o <;> first | (cases h; done) | (cases h; exact ⟨_, rfl⟩)
  | _ => cases h
def dWhile : Stmt → Option (Expr × List Stmt) | .While t b [] _ => some (t, b) | _ => none
theorem dWhile_inv {s : Stmt} {t : Expr} {b : List Stmt} (h : dWhile s = some (t, b)) : ∃ p, s = .While t b [] p := by
  cases s with
  | While t b o p => cases o <;> first | (cases h; done) | (cases h; exact ⟨_, rfl⟩)
  | _ => cases h
/-- y = [..] on one line -/
def dSetC : Stmt → Option (Str × Expr × Expr × Expr × List Expr × Scope × Bool)
  | .Assign [.Name y py] (.ListComp x [⟨t, i, ifs, 0⟩] sc p) _ => some (y, x, t, i, ifs, sc, (py.line == p.line) && !(sc.names.any fun (n, k) => n == y && (k == .local || k == .cell)))
  | _ => none
theorem dSetC_inv {s : Stmt} {y : Str} {x t i : Expr} {ifs : List Expr} {sc : Scope} (h : dSetC s = some (y, x, t, i, ifs, sc, true)) :
    ∃ py p q, s = .Assign [.Name y py] (.ListComp x [⟨t, i, ifs, 0⟩] sc p) q ∧ (py.line == p.line) = true ∧ (sc.names.any fun (n, k) => n == y && (k == .local || k == .cell)) = false := by
  unfold dSetC at h
  split at h
  · injection h with h
    injection h with e1 h; injection h with e2 h; injection h with e3 h; injection h with e4 h; injection h with e5 h; injection h with e6 h
    subst e1 e2 e3 e4 e5 e6
    obtain ⟨a, b⟩ := Bool.and_eq_true_iff.mp h
    exact ⟨_, _, _, rfl, a, by simpa using b⟩
  · cases h
def dAugF : Stmt → Option (Expr × Str × Operator × Expr) | .AugAssign (.Attribute o f _) op e _ => some (o, f, op, e) | _ => none
theorem dAugF_inv {s : Stmt} {o e : Expr} {f : Str} {op : Operator} (h : dAugF s = some (o, f, op, e)) : ∃ q p, s = .AugAssign (.Attribute o f q) op e p := by
  cases s with
  | AugAssign t o v p => cases t <;> first | (cases h; done) | (cases h; exact ⟨_, _, rfl⟩)
  | _ => cases h
def dExt : Expr → Option (Expr × Expr) | .Call (.Attribute o m ap) [e] [] cp => if decide (m = ("extend" : Str)) && (ap.endLine == cp.line) then some (o, e) else none | _ => none
theorem dExt_inv {x o e : Expr} (h : dExt x = some (o, e)) : ∃ ap cp, x = .Call (.Attribute o "extend" ap) [e] [] cp ∧ (ap.endLine == cp.line) = true := by
  unfold dExt at h
  split at h
  · split at h
    · rename_i hz
      obtain ⟨z1, z2⟩ := Bool.and_eq_true_iff.mp hz
      obtain rfl := of_decide_eq_true z1
      cases h
      exact ⟨_, _, rfl, z2⟩
    · cases h
  · cases h
def dRvs : Expr → Option Expr | .Call (.Attribute o m ap) [] [] cp => if decide (m = ("reverse" : Str)) && (ap.endLine == cp.line) then some o else none | _ => none
theorem dRvs_inv {x o : Expr} (h : dRvs x = some o) : ∃ ap cp, x = .Call (.Attribute o "reverse" ap) [] [] cp ∧ (ap.endLine == cp.line) = true := by
  unfold dRvs at h
  split at h
  · split at h
    · rename_i hz
      obtain ⟨z1, z2⟩ := Bool.and_eq_true_iff.mp hz
      obtain rfl := of_decide_eq_true z1
      cases h
      exact ⟨_, _, rfl, z2⟩
    · cases h
  · cases h
/-- raise C(e, ..) -/
def dRaise : Stmt → Option (Str × List Expr) | .Raise (some (.Call (.Name x _) as [] _)) none _ => some (x, as) | _ => none
theorem dRaise_inv {s : Stmt} {x : Str} {as : List Expr} (h : dRaise s = some (x, as)) : ∃ q p r, s = .Raise (some (.Call (.Name x q) as [] p)) none r := by
  unfold dRaise at h
  split at h
  · cases h; exact ⟨_, _, _, rfl⟩
  · cases h
/-- try: .. except x as n: .. -/
def dTry : Stmt → Option (List Stmt × Str × Str × List Stmt) | .Try b [.ExceptHandler (some (.Name x _)) (some n) (s :: r) _] [] [] _ => some (b, x, n, s :: r) | _ => none
theorem dTry_inv {st : Stmt} {b r : List Stmt} {x n : Str} (h : dTry st = some (b, x, n, r)) : ∃ np pp p b0 r0, st = .Try b [.ExceptHandler (some (.Name x np)) (some n) (b0 :: r0) pp] [] [] p ∧ r = b0 :: r0 := by
  unfold dTry at h
  split at h
  · cases h; exact ⟨_, _, _, _, _, rfl, rfl⟩
  · cases h
/-- B.__init__(o, f'..') -/
def dPei : Stmt → Option (Str × Expr × List Expr) | .Expr (.Call (.Attribute (.Name x _) m p2) [o, .JoinedStr (a :: b :: r) _] [] p4) _ => if decide (m = ("__init__" : Str)) && (p2.endLine == p4.line) then some (x, o, a :: b :: r) else none | _ => none
theorem dPei_inv {s : Stmt} {x : Str} {o : Expr} {js : List Expr} (h : dPei s = some (x, o, js)) : ∃ p1 p2 p3 p4 p5 a b r, s = .Expr (.Call (.Attribute (.Name x p1) "__init__" p2) [o, .JoinedStr (a :: b :: r) p3] [] p4) p5 ∧ js = a :: b :: r ∧ (p2.endLine == p4.line) = true := by
  unfold dPei at h
  split at h
  · split at h
    · rename_i hz
      obtain ⟨z1, z2⟩ := Bool.and_eq_true_iff.mp hz
      obtain rfl := of_decide_eq_true z1
      cases h
      exact ⟨_, _, _, _, _, _, _, _, rfl, rfl, z2⟩
    · cases h
  · cases h
def dFmt : Expr → Option Expr | .FormattedValue e c none _ => if decide (c = -1) then some e else none | _ => none
theorem dFmt_inv {x e : Expr} (h : dFmt x = some e) : ∃ p, x = .FormattedValue e (-1) none p := by
  unfold dFmt at h
  split at h
  · split at h
    · rename_i hz
      obtain rfl := of_decide_eq_true hz
      cases h
      exact ⟨_, rfl⟩
    · cases h
  · cases h
def isJs (c : SC) : Js → List Expr → Bool
  | .nil, es => match es with | [] => true | _ :: _ => false
  | .c x r, es => match es with | [] => false | e :: es => (match dConst e with | some k => decide (k = .str x) | none => false) && isJs c r es
  | .f e r, es => match es with | [] => false | y :: es => (match dFmt y with | some z => isE c e z | none => false) && isJs c r es
mutual
def isS (c : SC) : S → Stmt → Bool
  | .asg tg e, s => match dAsg s with | some (t, v) => noCut v && (parOk t v && (isTg c tg t && isE c e v)) | none => false
  | .setC i e, s => match dSetC s with
    | some (y, x, t, it', ifs, scope, b) => (match e with
      | .comp _ elt tg it cond => b && (decide (c.N[i]? = some y) && (decide (c.sc.names.lookup y = some .local) && (c.calm && (noSet it' && (isI c it t it' && (blkC c.N c.sc scope (ownOf c.N (slotsT tg)) && (decide ((ownOf c.N (slotsT tg)).map (·.2) = slotsT tg) && (isTg (c.blk scope) tg t && (isTo (c.blk scope) cond ifs && isE (c.blk scope) elt x)))))))))
      | _ => false)
    | none => (match dSetC2 s with
      | some (y, x, t, it', ifs, t1, it1', ifs1, scope, b) => (match e with
        | .comp2 _ elt tg it cond tg1 it1 cond1 => b && (decide (c.N[i]? = some y) && (decide (c.sc.names.lookup y = some .local) && (c.calm && (noSet it' && (noSet it1' && (isI c it t it' && (blkC c.N c.sc scope (ownOf c.N (slotsT tg ++ slotsT tg1)) && (decide ((ownOf c.N (slotsT tg ++ slotsT tg1)).map (·.2) = slotsT tg ++ slotsT tg1) && (isTg (c.blk scope) tg t && (isTo (c.blk scope) cond ifs && (isI (c.blk scope) it1 t1 it1' && (isTg (c.blk scope) tg1 t1 && (isTo (c.blk scope) cond1 ifs1 && isE (c.blk scope) elt x)))))))))))))
        | _ => false)
      | none => false)
  | .aug i op e, s => match dAug s with | some (x, o, v) => decide (o = op) && (supA op && (decide (c.N[i]? = some x) && (locB c.sc c.fnm x && isE c e v))) | none => false
  | .ret e, s => match dRet s with | some (some v) => isE c e v | _ => false
  | .retN, s => match dRet s with | some none => true | _ => false
  | .ifs t a b, s => match dIfS s with | some (u, x, y) => isT c t u && (isSs c a x && isSs c b y) | none => false
  | .for tg it body, s => match dFor s with | some (t, i, b) => c.calm && (noSet i && (isI c it t i && (isTg c tg t && isSs c body b))) | none => false
  | .while t body, s => match dWhile s with | some (u, b) => isT c t u && isSs c body b | none => false
  | .expr e, s => match dExpr s with | some v => noCut v && isE c e v | none => false
  | .app o e, s => match dExpr s with | some v => (match dApp v with | some (x, y) => attrOk x && (noStar y && (isE c o x && isE c e y)) | none => false) | none => false
  | .setIx o i e, s => match dAsg s with | some (t, v) => (match dSub t with | some (x, y) => noCut v && (plainI y && (isE c e v && (isE c o x && isE c i y))) | none => false) | none => false
  | .ext o e, s => match dExpr s with | some v => (match dExt v with | some (x, y) => attrOk x && (noStar y && (isE c o x && isE c e y)) | none => false) | none => false
  | .setF o f e, s => match dAsg s with | some (t, v) => (match dAttr t with | some (x, g) => true && (decide (g = f) && (isE c o x && isE c e v)) | none => false) | none => false
  | .augF o f op e, s => match dAugF s with | some (x, g, q, v) => decide (g = f) && (decide (q = op) && (supA op && (isE c o x && isE c e v))) | none => false
  | .rvs o, s => match dExpr s with | some v => (match dRvs v with | some x => attrOk x && isE c o x | none => false) | none => false
  | .setT o es e, s => match dAsg s with | some (t, v) => (match dSub t with | some (x, y) => (match dTup y with | some ys => noCut v && (isE c e v && (isE c o x && isEs c es ys)) | none => false) | none => false) | none => false
  | .pass, s => match s with | .Pass _ => true | _ => false
  | .brk, s => match s with | .Break _ => true | _ => false
  | .cont, s => match s with | .Continue _ => true | _ => false
  | .never, _ => true
  | .rais k es, s => match dRaise s with | some (x, ys) => c.calm && (!c.hot && (decide (c.xcs[k]? = some x) && (glB c.sc x && (okNm x && (!ys.isEmpty && isEs c es ys))))) | none => false
  | .tryAs body k i suite, s => match dTry s with | some (b, x, n, r) => decide (c.xcs[k]? = some x) && (!(c.hot || c.xo) && (glB c.sc x && (okNm x && (decide (c.N[i]? = some n) && (decide (c.sc.names.lookup n = some .local) && (isSs c body b && isSs c.suite suite r)))))) | none => false
  | .pei o js, s => match dPei s with | some (x, y, ys) => decide (x ∈ c.pes) && (glB c.sc x && (okNm x && (noStar y && (isE c o y && isJs c js ys)))) | none => false
  | .setX o f e, s => match dAsg s with | some (t, v) => (match dAttr t with | some (x, g) => noCut v && (decide (g = f) && (isE c o x && isE c e v)) | none => false) | none => false
def isSs (c : SC) : Ss → List Stmt → Bool
  | .nil, sts => match sts with | [] => true | _ :: _ => false
  | .cons s r, sts => match sts with | [] => false | x :: xs => isS c s x && isSs c r xs
  | .frz _ r, sts => isSs c r sts
  | .frzF _ _ r, sts => isSs c r sts
end
theorem and2 {a b : Bool} (h : (a && b) = true) : a = true ∧ b = true := Bool.and_eq_true_iff.mp h
end Vp
namespace Vp
open PySem PySem.Spec PyProof.Rows L2

section
variable {X : Cx} {W : WX} {wa wb wc : VE} {a b d : Expr} {pos : Pos}
theorem de_var {i : Nat} {x : Str} (hN : X.N[i]? = some x) (hv : Vis X.env.scope x) (hn : okNm x = true) : PE X (.Name x pos) (tE X.K W fun ρ M Q _ => ∃ d, ρ[i]? = some (some d) ∧ Q d M) := by
  refine PE.weak (pe_var hN hv (okNm1 hn) (okNm2 hn)) fun σ H Q h => ?_
  obtain ⟨F, M, ρ, Q', X', s, r, ⟨d, e, q⟩, pv, px⟩ := h
  obtain ⟨v, e1, rv⟩ := r.get i d e
  exact ⟨v, e1, pv.here s q rv⟩
theorem de_const {e : Expr} {v : V} {dd : D} (h : PE X e (tC v)) (hr : ∀ K F, Rep K F v dd) : PE X e (tE X.K W fun _ M Q _ => Q dd M) := by
  refine PE.weak h fun σ H Q h => ?_
  obtain ⟨F, M, ρ, Q', X', s, r, q, pv, px⟩ := h
  exact pv.here s q (hr _ _)
/-- two expressions in a row -/
theorem two {σ : L2.St} {H : Hp} {F : Hp} {M : Mo} {ρ : Rho} {X' : XQ} {f : D → D → Mo → Prop} {R : V → V → Hp → Prop} (s : Sat X.K F H M) (r : RepE X.K F σ ρ) (h : wa ρ M (fun x M1 => wb ρ M1 (fun y M2 => f x y M2) X') X') (px : PX X.K F M H W σ X')
    (hf : ∀ x y d1 d2 F2 M2 H2, Step X.K F M H F2 M2 H2 → Rep X.K F2 x d1 → Rep X.K F2 y d2 → f d1 d2 M2 → R x y H2) : tE X.K W wa σ H fun x H1 => tE X.K W wb σ H1 fun y H2 => R x y H2 := by
  refine ⟨F, M, ρ, _, X', s, r, h, fun d1 M1 h1 F1 H1 v1 st1 r1 => ?_, px⟩
  refine ⟨F1, M1, ρ, _, X', st1.sat, r.mono st1.ff, h1, fun d2 M2 h2 F2 H2 v2 st2 r2 => ?_, px.step st1⟩
  exact hf v1 v2 d1 d2 F2 M2 H2 (st1.trans st2) (r1.mono st2.ff) r2 h2
theorem de_op {op : Operator} {r : R2} {f : D → D → Mo → QE → Prop} (ho : OpR X (binaryOp op) r) (hl : OpL X.K r f) (ha : PE X a (tE X.K W wa)) (hb : PE X b (tE X.K W wb)) :
    PE X (.BinOp a op b pos) (tE X.K W fun ρ M Q X' => wa ρ M (fun x M1 => wb ρ M1 (fun y M2 => f x y M2 Q) X') X') := by
  refine PE.weak (pe_op ho ha hb) fun σ H Q h => ?_
  obtain ⟨F, M, ρ, Q', X', s, r, h, pv, px⟩ := h
  exact two s r h px fun x y d1 d2 F2 M2 H2 st r1 r2 q => hl x y d1 d2 F2 H2 M2 Q Q' st.sat r1 r2 q (pv.step st)
theorem de_none {e : Expr} {w : VE} (h : ∀ ρ M Q X', ¬ w ρ M Q X') : PE X e (tE X.K W w) := ⟨fun _ _ _ _ _ _ ⟨_, _, _, _, _, _, _, q, _⟩ => absurd q (h _ _ _ _)⟩
theorem de_ix (hu : X.A.units + 1 < cLine) (hp : PlainIx b) (ha : PE X a (tE X.K W wa)) (hb : PE X b (tE X.K W wb)) :
    PE X (.Subscript a b pos) (tE X.K W fun ρ M Q X' => wa ρ M (fun x M1 => wb ρ M1 (fun y M2 => ∃ d, ixV M2 x y = some d ∧ Q d M2) X') X') := by
  refine PE.weak (pe_ix (ix_seq.or (ix_dict hu)) ha hb hp) fun σ H Q h => ?_
  obtain ⟨F, M, ρ, Q', X', s, r, h, pv, px⟩ := h
  exact two s r h px fun x y d1 d2 F2 M2 H2 st r1 r2 q => opl_ix x y d1 d2 F2 H2 M2 Q Q' st.sat r1 r2 q (pv.step st)
theorem de_neg (ha : PE X a (tE X.K W wa)) : PE X (.UnaryOp .USub a pos) (tE X.K W fun ρ M Q X' => wa ρ M (fun x M1 => ∃ i, x = .int i ∧ Q (.int (-i)) M1) X') := by
  refine PE.weak (pe_un un_neg ha) fun σ H Q h => ?_
  obtain ⟨F, M, ρ, Q', X', s, r, h, pv, px⟩ := h
  refine ⟨F, M, ρ, _, X', s, r, h, fun d1 M1 ⟨i, e, q⟩ F1 H1 v1 st1 r1 => ?_, px⟩
  subst e
  cases r1
  exact ⟨i, rfl, (pv.step st1).here st1.sat q (.int _)⟩
theorem de_cmp {op : CmpOp} {r : R2} (ho : OpR X (compareOp op) r) (hl : OpL X.K r (fCmp (cmpV op))) (hb' : behindInMarks op b = false) (ha : PE X a (tE X.K W wa)) (hb : PE X b (tE X.K W wb)) :
    PE X (.Compare a [op] [b] pos) (tE X.K W fun ρ M Q X' => wa ρ M (fun x M1 => wb ρ M1 (fun y M2 => fCmp (cmpV op) x y M2 Q) X') X') := by
  refine PE.weak (pe_cmpR ho ha hb hb') fun σ H Q h => ?_
  obtain ⟨F, M, ρ, Q', X', s, r, h, pv, px⟩ := h
  exact two s r h px fun x y d1 d2 F2 M2 H2 st r1 r2 q => hl x y d1 d2 F2 H2 M2 Q Q' st.sat r1 r2 q (pv.step st)
theorem dt_cmp {op : CmpOp} {r : R2} (ho : OpR X (compareOp op) r) (hl : OpL X.K r (fCmp (cmpV op))) (hb' : behindInMarks op b = false) (ha : PE X a (tE X.K W wa)) (hb : PE X b (tE X.K W wb)) :
    PT X (.Compare a [op] [b] pos) (tT X.K W fun ρ M Q X' => wa ρ M (fun x M1 => wb ρ M1 (fun y M2 => ∃ k, cmpV op x y = some k ∧ Q k M2) X') X') := by
  refine PT.weak (pt_cmpR ho ha hb hb') fun σ H Q h => ?_
  obtain ⟨F, M, ρ, Q', X', s, r, h, pv, px⟩ := h
  refine two s r h px fun x y d1 d2 F2 M2 H2 st r1 r2 q => ?_
  obtain ⟨k, e, q⟩ := q
  refine hl x y d1 d2 F2 H2 M2 _ (fun d M' => d = .bl k ∧ M' = M2) st.sat r1 r2 ⟨k, e, rfl, rfl⟩ fun dd M' ⟨e1, e2⟩ F' H' v st' r' => ?_
  subst e1 e2
  cases r'
  exact ⟨k, rfl, pv k _ q F' H' (st.trans st')⟩
/-- a chain, by its tail -/
theorem chain_tail {op op' : CmpOp} {r r' : R2} (hl : OpL X.K r (fCmp (cmpV op))) (hl' : OpL X.K r' (fCmp (cmpV op'))) {σ : L2.St} {H : Hp} {F : Hp} {M : Mo} {ρ : Rho} {X' : XQ} {Qb : Bool → Mo → Prop} {R : V → Hp → Prop} (s : Sat X.K F H M) (re : RepE X.K F σ ρ)
    (h : wa ρ M (fun x M1 => wb ρ M1 (fun y M2 => ∃ k, cmpV op x y = some k ∧ if k = true then wc ρ M2 (fun z M3 => ∃ k', cmpV op' y z = some k' ∧ Qb k' M3) X' else Qb false M2) X') X') (px : PX X.K F M H W σ X')
    (hR : ∀ k M2 F2 H2, Qb k M2 → Step X.K F M H F2 M2 H2 → R (.bl k) H2) : tChain r r' (tE X.K W wa) (tE X.K W wb) (tE X.K W wc) σ H R := by
  refine two s re h px fun x y d1 d2 F2 M2 H2 st r1 r2 q => ?_
  obtain ⟨k, e, q⟩ := q
  refine hl x y d1 d2 F2 H2 M2 _ (fun d M' => d = .bl k ∧ M' = M2) st.sat r1 r2 ⟨k, e, rfl, rfl⟩ fun dd M' ⟨e1, e2⟩ F3 H3 v st' r3 => ?_
  subst e1 e2
  cases r3
  refine ⟨k, rfl, ?_⟩
  have st3 := st.trans st'
  cases k with
  | false => exact iteF (hR false _ F3 H3 q st3)
  | true =>
    refine iteT ⟨F3, _, ρ, _, X', st3.sat, re.mono st3.ff, q, fun d3 M3 ⟨k', e3, q3⟩ F4 H4 v4 st4 r4 => ?_, px.step st3⟩
    refine hl' y v4 d2 d3 F4 H4 M3 _ (fun d M' => d = .bl k' ∧ M' = M3) st4.sat (r2.mono (st'.ff.trans st4.ff)) r4 ⟨k', e3, rfl, rfl⟩ fun dd M' ⟨e1, e2⟩ F5 H5 v st5 r5 => ?_
    subst e1 e2
    cases r5
    exact hR k' _ F5 H5 q3 ((st3.trans st4).trans st5)
theorem de_chain {op op' : CmpOp} {r r' : R2} (ho : OpR X (compareOp op) r) (hl : OpL X.K r (fCmp (cmpV op))) (ho' : OpR X (compareOp op') r') (hl' : OpL X.K r' (fCmp (cmpV op'))) (hm : lastMarks [op, op'] [b, d] = false)
    (ha : PE X a (tE X.K W wa)) (hb : PE X b (tE X.K W wb)) (hc : PE X d (tE X.K W wc)) :
    PE X (.Compare a [op, op'] [b, d] pos) (tE X.K W fun ρ M Q X' => wa ρ M (fun x M1 => wb ρ M1 (fun y M2 => ∃ k, cmpV op x y = some k ∧ if k = true then wc ρ M2 (fun z M3 => fCmp (cmpV op') y z M3 Q) X' else Q (.bl false) M2) X') X') := by
  refine PE.weak (pe_chain ho ho' ha hb hc hm) fun σ H Q h => ?_
  obtain ⟨F, M, ρ, Q', X', s, r, h, pv, px⟩ := h
  exact chain_tail hl hl' (Qb := fun k M => Q' (.bl k) M) s r h px fun k M2 F2 H2 q st => pv _ _ q F2 H2 _ st (.bl _)
theorem dt_chain {op op' : CmpOp} {r r' : R2} (ho : OpR X (compareOp op) r) (hl : OpL X.K r (fCmp (cmpV op))) (ho' : OpR X (compareOp op') r') (hl' : OpL X.K r' (fCmp (cmpV op'))) (hm : lastMarks [op, op'] [b, d] = false)
    (ha : PE X a (tE X.K W wa)) (hb : PE X b (tE X.K W wb)) (hc : PE X d (tE X.K W wc)) :
    PT X (.Compare a [op, op'] [b, d] pos) (tT X.K W fun ρ M Q X' => wa ρ M (fun x M1 => wb ρ M1 (fun y M2 => ∃ k, cmpV op x y = some k ∧ if k = true then wc ρ M2 (fun z M3 => ∃ k', cmpV op' y z = some k' ∧ Q k' M3) X' else Q false M2) X') X') := by
  refine PT.weak (pt_chain ho ho' ha hb hc hm) fun σ H Q h => ?_
  obtain ⟨F, M, ρ, Q', X', s, r, h, pv, px⟩ := h
  exact chain_tail hl hl' (Qb := Q') s r h px fun k M2 F2 H2 q st => ⟨k, rfl, pv _ _ q F2 H2 st⟩
theorem de_and {rest : List Expr} (ha : PE X a (tE X.K W wa)) (hb : PE X (.BoolOp .And (b :: rest) pos) (tE X.K W wb)) :
    PE X (.BoolOp .And (a :: b :: rest) pos) (tE X.K W fun ρ M Q X' => wa ρ M (fun x M1 => ∃ c, x = .bl c ∧ if c = true then wb ρ M1 Q X' else Q (.bl false) M1) X') := by
  refine PE.weak (pe_and ha hb) fun σ H Q h => ?_
  obtain ⟨F, M, ρ, Q', X', s, r, h, pv, px⟩ := h
  refine ⟨F, M, ρ, _, X', s, r, h, fun d1 M1 ⟨c, e, q⟩ F1 H1 v1 st1 r1 => ?_, px⟩
  subst e
  cases r1
  refine ⟨c, rfl, ?_⟩
  cases c with
  | true => exact iteT ⟨F1, M1, ρ, _, X', st1.sat, r.mono st1.ff, q, pv.step st1, px.step st1⟩
  | false => exact iteF (pv _ _ q F1 H1 _ st1 (.bl _))
theorem de_or {rest : List Expr} (ha : PE X a (tE X.K W wa)) (hb : PE X (.BoolOp .Or (b :: rest) pos) (tE X.K W wb)) :
    PE X (.BoolOp .Or (a :: b :: rest) pos) (tE X.K W fun ρ M Q X' => wa ρ M (fun x M1 => ∃ c, x = .bl c ∧ if c = true then Q (.bl true) M1 else wb ρ M1 Q X') X') := by
  refine PE.weak (pe_or ha hb) fun σ H Q h => ?_
  obtain ⟨F, M, ρ, Q', X', s, r, h, pv, px⟩ := h
  refine ⟨F, M, ρ, _, X', s, r, h, fun d1 M1 ⟨c, e, q⟩ F1 H1 v1 st1 r1 => ?_, px⟩
  subst e
  cases r1
  refine ⟨c, rfl, ?_⟩
  cases c with
  | true => exact iteT (pv _ _ q F1 H1 _ st1 (.bl _))
  | false => exact iteF ⟨F1, M1, ρ, _, X', st1.sat, r.mono st1.ff, q, pv.step st1, px.step st1⟩
theorem de_not (ha : PE X a (tE X.K W wa)) : PE X (.UnaryOp .Not a pos) (tE X.K W fun ρ M Q X' => wa ρ M (fun x M1 => ∃ c, x = .bl c ∧ Q (.bl (!c)) M1) X') := by
  refine PE.weak (pe_not ha) fun σ H Q h => ?_
  obtain ⟨F, M, ρ, Q', X', s, r, h, pv, px⟩ := h
  refine ⟨F, M, ρ, _, X', s, r, h, fun d1 M1 ⟨c, e, q⟩ F1 H1 v1 st1 r1 => ?_, px⟩
  subst e
  cases r1
  exact ⟨c, rfl, (pv.step st1).here st1.sat q (.bl _)⟩
abbrev WT := Rho → Mo → (Bool → Mo → Prop) → XQ → Prop
theorem de_ite {c : Expr} {wt : WT} (hc : PT X c (tT X.K W wt)) (ha : PE X a (tE X.K W wa)) (hb : PE X b (tE X.K W wb)) :
    PE X (.IfExp c a b pos) (tE X.K W fun ρ M Q X' => wt ρ M (fun k M1 => if k = true then wa ρ M1 Q X' else wb ρ M1 Q X') X') := by
  refine PE.weak (pe_ifExp hc ha hb) fun σ H Q h => ?_
  obtain ⟨F, M, ρ, Q', X', s, r, h, pv, px⟩ := h
  refine ⟨F, M, ρ, _, X', s, r, h, fun k M1 q F1 H1 st1 => ?_, px⟩
  cases k with
  | true => exact iteT ⟨F1, M1, ρ, _, X', st1.sat, r.mono st1.ff, q, pv.step st1, px.step st1⟩
  | false => exact iteF ⟨F1, M1, ρ, _, X', st1.sat, r.mono st1.ff, q, pv.step st1, px.step st1⟩
abbrev WL := Rho → Mo → (List D → Mo → Prop) → XQ → Prop
theorem da_nil : PA X [] (tL X.K W fun _ M Q _ => Q [] M) := by
  refine PA.weak pa_nil fun σ H Q h => ?_
  obtain ⟨F, M, ρ, Q', X', s, r, h, pl, px⟩ := h
  exact pl _ _ h F H _ (Step.refl s) .nil
theorem da_cons {es : List Expr} {wl : WL} (hs : noStar a = true) (ha : PE X a (tE X.K W wa)) (hr : PA X es (tL X.K W wl)) :
    PA X (a :: es) (tL X.K W fun ρ M Q X' => wa ρ M (fun x M1 => wl ρ M1 (fun xs M2 => Q (x :: xs) M2) X') X') := by
  refine PA.weak (pa_cons ha hr (star_cons hs)) fun σ H Q h => ?_
  obtain ⟨F, M, ρ, Q', X', s, r, h, pl, px⟩ := h
  refine ⟨F, M, ρ, _, X', s, r, h, fun d1 M1 h1 F1 H1 v1 st1 r1 => ?_, px⟩
  exact ⟨F1, M1, ρ, _, X', st1.sat, r.mono st1.ff, h1, fun ds M2 h2 F2 H2 vs st2 r2 => pl _ _ h2 F2 H2 _ (st1.trans st2) (.cons (r1.mono st2.ff) r2), px.step st1⟩
theorem de_tup {es : List Expr} {wl : WL} {k : Nat} (h : PA X es (tL X.K W wl)) : PE X (.Tuple es k pos) (tE X.K W fun ρ M Q X' => wl ρ M (fun ds M1 => ds.length ≤ 16777216 ∧ Q (.tup ds) M1) X') := by
  refine PE.weak (pe_tup h) fun σ H Q h => ?_
  obtain ⟨F, M, ρ, Q', X', s, r, h, pv, px⟩ := h
  refine ⟨F, M, ρ, _, X', s, r, h, fun ds M1 ⟨hz, q⟩ F1 H1 vs st1 r1 => ⟨szl (by rw [r1.length]; exact hz), fun p hp => ?_⟩, px⟩
  exact (pv.step st1).fresh st1.sat q hp (new_tup st1.sat hp r1)
theorem de_lst {es : List Expr} {wl : WL} {m : Bool} (h : PA X es (tL X.K W wl)) :
    PE X (.List es pos) (tE X.K W fun ρ M Q X' => wl ρ M (fun ds M1 => ds.length ≤ 16777216 ∧ if m = true then ∀ p, M1 p = none → Q (.ref p) (updM M1 p (.lst ds)) else Q (.lst ds) M1) X') := by
  refine PE.weak (pe_lst h) fun σ H Q h => ?_
  obtain ⟨F, M, ρ, Q', X', s, r, h, pv, px⟩ := h
  refine ⟨F, M, ρ, _, X', s, r, h, fun ds M1 ⟨hz, q⟩ F1 H1 vs st1 r1 => ⟨szl (by rw [r1.length]; exact hz), fun p hp => ?_⟩, px⟩
  cases m with
  | true => exact (pv.step st1).freshM st1.sat (mo := .lst ds) (by simpa using q) hp ⟨vs, rfl, r1⟩
  | false => exact (pv.step st1).fresh st1.sat (d := .lst ds) (by simpa using q) hp (new_lst st1.sat hp r1)
theorem de_call {es : List Expr} {wl : WL} {k : Nat} {g : Fn} {x : Str} {p : Pos} (hr : Room k X.A) (hf : FnIs X k g) (tk : L2N.Takes X W) (hx : g.name = x) (hg : Gl X x) (hn : okNm x = true) (ha : PA X (a :: es) (tL X.K W wl)) (hs : (a :: es).all noStar = true) :
    PE X (.Call (.Name x p) (a :: es) [] pos) (tE X.K W fun ρ M Q X' => wl ρ M (fun ds M1 => ds.length = g.n ∧ g.con ds M1 Q X') X') := by
  subst hx
  obtain ⟨f, fd, ps, F0, hm, hk, hb⟩ := hf
  obtain ⟨h1, h2⟩ := Bool.and_eq_true_iff.mp (by simpa using hs : (noStar a && es.all noStar) = true)
  refine PE.weak (pe_callSD (E := L2.WE W) F0 hr hg hm hk hb .nil (fun σ => L2N.passAt tk σ) ha (okNm1 hn) (star_cons h1) (star_any h2)) fun σ H Q h => ?_
  obtain ⟨F, M, ρ, Q', X', s, r, h, pv, px⟩ := h
  refine ⟨F, M, ρ, _, X', s, r, h, fun ds M1 ⟨hl, q⟩ F1 H1 vs st1 r1 => ?_, px⟩
  show spOf X.K g.n g.con (vs ++ []) H1 Q (L2.WE W σ)
  rw [List.append_nil]
  exact ⟨F1, M1, ds, Q', X', st1.sat, r1, hl, q, pv.step st1, px.step st1⟩
theorem de_bi {es : List Expr} {wl : WL} {b' : Bi} {x : Str} {p : Pos} (hc : X.calm = true) (hx : x = b'.name) (hg : Gl X x) (hm : X.mg x = none) (hn : okNm x = true) (ha : PA X (a :: es) (tL X.K W wl)) (hs : (a :: es).all noStar = true) :
    PE X (.Call (.Name x p) (a :: es) [] pos) (tE X.K W fun ρ M Q X' => wl ρ M (fun ds M1 => b'.wp ds M1 Q) X') := by
  subst hx
  obtain ⟨h1, h2⟩ := Bool.and_eq_true_iff.mp (by simpa using hs : (noStar a && es.all noStar) = true)
  cases bi_run hc b' with
  | fn id r c l hv =>
    refine PE.weak (pe_callB c hg hm hv ha (okNm3 hn) (okNm1 hn) (star_cons h1) (star_any h2)) fun σ H Q h => ?_
    obtain ⟨F, M, ρ, Q', X', s, r, h, pv, px⟩ := h
    exact ⟨F, M, ρ, _, X', s, r, h, fun ds M1 q F1 H1 vs st1 r1 => l vs ds F1 H1 M1 Q Q' st1.sat r1 q (pv.step st1), px⟩
  | ty id r c l hv =>
    refine PE.weak (pe_callTy c hg hm hv ha (okNm3 hn) (okNm1 hn) (star_cons h1) (star_any h2)) fun σ H Q h => ?_
    obtain ⟨F, M, ρ, Q', X', s, r, h, pv, px⟩ := h
    exact ⟨F, M, ρ, _, X', s, r, h, fun ds M1 q F1 H1 vs st1 r1 => l vs ds F1 H1 M1 Q Q' st1.sat r1 q (pv.step st1), px⟩
theorem de_biR {es : List Expr} {wl : WL} {b' : Bi} {x : Str} {p : Pos} (br : BiRun X b') (hx : x = b'.name) (hg : Gl X x) (hm : X.mg x = none) (hn : okNm x = true) (ha : PA X (a :: es) (tL X.K W wl)) (hs : (a :: es).all noStar = true) :
    PE X (.Call (.Name x p) (a :: es) [] pos) (tE X.K W fun ρ M Q X' => wl ρ M (fun ds M1 => b'.wp ds M1 Q) X') := by
  subst hx
  obtain ⟨h1, h2⟩ := Bool.and_eq_true_iff.mp (by simpa using hs : (noStar a && es.all noStar) = true)
  cases br with
  | fn id r c l hv =>
    refine PE.weak (pe_callB c hg hm hv ha (okNm3 hn) (okNm1 hn) (star_cons h1) (star_any h2)) fun σ H Q h => ?_
    obtain ⟨F, M, ρ, Q', X', s, r, h, pv, px⟩ := h
    exact ⟨F, M, ρ, _, X', s, r, h, fun ds M1 q F1 H1 vs st1 r1 => l vs ds F1 H1 M1 Q Q' st1.sat r1 q (pv.step st1), px⟩
  | ty id r c l hv =>
    refine PE.weak (pe_callTy c hg hm hv ha (okNm3 hn) (okNm1 hn) (star_cons h1) (star_any h2)) fun σ H Q h => ?_
    obtain ⟨F, M, ρ, Q', X', s, r, h, pv, px⟩ := h
    exact ⟨F, M, ρ, _, X', s, r, h, fun ds M1 q F1 H1 vs st1 r1 => l vs ds F1 H1 M1 Q Q' st1.sat r1 q (pv.step st1), px⟩
theorem cx_never {P : Program} {w : World} {outer : List Env} {H : Hp} {s : Shared} {u : Value} {s' : Shared} (h : L2N.CX P w outer H s (fun _ _ _ => False) u s') : False := by
  obtain ⟨a, B, H', cls, d, _, _, _, _, _, _, _, h⟩ := h
  exact h
theorem de_callH {es : List Expr} {wl : WL} {k : Nat} {g : Fn} {x : Str} {p : Pos} (hr : L2H.RoomH k X.A) (hot : L2H.HotC X) (hf : HfIs X k g) (hx : g.name = x) (hg : Gl X x) (hn : okNm x = true) (ha : PA X (a :: es) (tL X.K W wl)) (hs : (a :: es).all noStar = true) :
    PE X (.Call (.Name x p) (a :: es) [] pos) (tE X.K W fun ρ M Q X' => wl ρ M (fun ds M1 => ds.length = g.n ∧ g.con ds M1 Q noX) X') := by
  subst hx
  obtain ⟨f, fd, ps, F0, hm, hk, hb⟩ := hf
  obtain ⟨h1, h2⟩ := Bool.and_eq_true_iff.mp (by simpa using hs : (noStar a && es.all noStar) = true)
  refine PE.weak (L2H.pe_callH (E := fun _ _ _ _ => False) F0 hr hot hg hm hk hb (fun σ => fun _ _ _ _ _ _ c => (cx_never c).elim) ha (okNm1 hn) (star_cons h1) (star_any h2)) fun σ H Q h => ?_
  obtain ⟨F, M, ρ, Q', X', s, r, h, pv, px⟩ := h
  refine ⟨F, M, ρ, _, X', s, r, h, fun ds M1 ⟨hl, q⟩ F1 H1 vs st1 r1 => ?_, px⟩
  exact ⟨F1, M1, ds, Q', noX, st1.sat, r1, hl, q, pv.step st1, fun _ _ _ q => q.elim⟩
theorem dt_tr (hp : plainT a = true) (ha : PE X a (tE X.K W wa)) : PT X a (tT X.K W fun ρ M Q X' => wa ρ M (fun x M1 => ∃ k, truD M1 x = some k ∧ Q k M1) X') := by
  refine PT.weak (pt_truth ha (plainT_ok hp)) fun σ H Q h => ?_
  obtain ⟨F, M, ρ, Q', X', s, r, h, pv, px⟩ := h
  refine ⟨F, M, ρ, _, X', s, r, h, fun d1 M1 ⟨k, e, q⟩ F1 H1 v1 st1 r1 => ?_, px⟩
  exact ⟨k, tru_rep st1.sat r1 e, pv _ _ q F1 H1 st1⟩
theorem dt_not {wt : WT} (ha : PT X a (tT X.K W wt)) : PT X (.UnaryOp .Not a pos) (tT X.K W fun ρ M Q X' => wt ρ M (fun c M1 => Q (!c) M1) X') := by
  refine PT.weak (pt_not ha) fun σ H Q h => ?_
  obtain ⟨F, M, ρ, Q', X', s, r, h, pv, px⟩ := h
  exact ⟨F, M, ρ, _, X', s, r, h, fun k M1 q F1 H1 st1 => pv _ _ q F1 H1 st1, px⟩
theorem pw_bool {op : BoolOp} {vs : List Expr} {t : TT} (h : PT X (.BoolOp op vs pos) t) : PW X (.BoolOp op vs pos) t := ⟨fun whole pins s σ H Q I q => h.run pins s σ H Q I q⟩
theorem dt_and {rest : List Expr} {wt wu : WT} (ha : PT X a (tT X.K W wt)) (hb : PW X (.BoolOp .And (b :: rest) pos) (tT X.K W wu)) :
    PT X (.BoolOp .And (a :: b :: rest) pos) (tT X.K W fun ρ M Q X' => wt ρ M (fun c M1 => if c = true then wu ρ M1 Q X' else Q false M1) X') := by
  refine PT.weak (PW.pt (pw_and ha hb)) fun σ H Q h => ?_
  obtain ⟨F, M, ρ, Q', X', s, r, h, pv, px⟩ := h
  refine ⟨F, M, ρ, _, X', s, r, h, fun k M1 q F1 H1 st1 => ?_, px⟩
  cases k with
  | true => exact iteT ⟨F1, M1, ρ, _, X', st1.sat, r.mono st1.ff, q, pv.step st1, px.step st1⟩
  | false => exact iteF (pv _ _ q F1 H1 st1)
theorem dt_or {rest : List Expr} {wt wu : WT} (ha : PT X a (tT X.K W wt)) (hb : PW X (.BoolOp .Or (b :: rest) pos) (tT X.K W wu)) :
    PT X (.BoolOp .Or (a :: b :: rest) pos) (tT X.K W fun ρ M Q X' => wt ρ M (fun c M1 => if c = true then Q true M1 else wu ρ M1 Q X') X') := by
  refine PT.weak (PW.pt (pw_or ha hb)) fun σ H Q h => ?_
  obtain ⟨F, M, ρ, Q', X', s, r, h, pv, px⟩ := h
  refine ⟨F, M, ρ, _, X', s, r, h, fun k M1 q F1 H1 st1 => ?_, px⟩
  cases k with
  | true => exact iteT (pv _ _ q F1 H1 st1)
  | false => exact iteF ⟨F1, M1, ρ, _, X', st1.sat, r.mono st1.ff, q, pv.step st1, px.step st1⟩
end
end Vp
namespace Vp
open PySem PySem.Spec PyProof.Rows L2

section
variable {X : Cx} {W : WX} {wa wb wc : VE} {a b d : Expr} {pos : Pos}
abbrev WO := Rho → Mo → (Option Int → Mo → Prop) → XQ → Prop
def PLo (K : PySem.W.Frag) (F : Hp) (M : Mo) (H : Hp) (Q : Option Int → Hp → Prop) (Q' : Option Int → Mo → Prop) : Prop := ∀ b M', Q' b M' → ∀ F' H', Step K F M H F' M' H' → Q b H'
def tO (K : PySem.W.Frag) (W : WX) (w : WO) : TO := fun σ H Q => ∃ F M ρ Q' X', Sat K F H M ∧ RepE K F σ ρ ∧ w ρ M Q' X' ∧ PLo K F M H Q Q' ∧ PX K F M H W σ X'
theorem PO.weak {X : Cx} {e : Option Expr} {t t' : TO} (h : PO X e t) (i : ∀ σ H Q, t' σ H Q → t σ H Q) : PO X e t' := ⟨fun pins s σ H Q I q => h.run pins s σ H Q I (i σ H Q q)⟩
theorem do_none : PO X none (tO X.K W fun _ M Q _ => Q none M) := by
  refine PO.weak po_none fun σ H Q h => ?_
  obtain ⟨F, M, ρ, Q', X', s, r, h, pl, px⟩ := h
  exact pl _ _ h F H (Step.refl s)
theorem do_some (ha : PE X a (tE X.K W wa)) : PO X (some a) (tO X.K W fun ρ M Q X' => wa ρ M (fun x M1 => ∃ i, x = .int i ∧ Q (some i) M1) X') := by
  refine PO.weak (po_some ha) fun σ H Q h => ?_
  obtain ⟨F, M, ρ, Q', X', s, r, h, pl, px⟩ := h
  refine ⟨F, M, ρ, _, X', s, r, h, fun d1 M1 ⟨i, e, q⟩ F1 H1 v1 st1 r1 => ?_, px⟩
  subst e
  cases r1
  exact ⟨i, rfl, pl _ _ q F1 H1 st1⟩
theorem de_sl {lo hi : Option Expr} {wl wh : WO} {p : Pos} (ha : PE X a (tE X.K W wa)) (hl : PO X lo (tO X.K W wl)) (hh : PO X hi (tO X.K W wh)) :
    PE X (.Subscript a (.Slice lo hi none p) pos) (tE X.K W fun ρ M Q X' => wa ρ M (fun x M1 => wl ρ M1 (fun l M2 => wh ρ M2 (fun h M3 => ∃ d, slV M3 x l h = some d ∧ Q d M3) X') X') X') := by
  refine PE.weak (pe_slice sl_any ha hl hh) fun σ H Q h => ?_
  obtain ⟨F, M, ρ, Q', X', s, r, h, pv, px⟩ := h
  refine ⟨F, M, ρ, _, X', s, r, h, fun d1 M1 h1 F1 H1 v1 st1 r1 => ?_, px⟩
  refine ⟨F1, M1, ρ, _, X', st1.sat, r.mono st1.ff, h1, fun l M2 h2 F2 H2 st2 => ?_, px.step st1⟩
  have st12 := st1.trans st2
  refine ⟨F2, M2, ρ, _, X', st2.sat, r.mono st12.ff, h2, fun h M3 ⟨e, he, q⟩ F3 H3 st3 => ?_, px.step st12⟩
  exact sll st3.sat (r1.mono (st2.ff.trans st3.ff)) he q (pv.step (st12.trans st3))
theorem inop_ok {X : Cx} (hu : X.A.units + 1 < cLine) (neg : Bool) : OpR X (compareOp (if neg then .NotIn else .In)) (rInAny X.K neg) := by
  cases neg with
  | true => exact op_notInAny hu
  | false => exact op_inAny hu
theorem de_isin {neg : Bool} {op : CmpOp} (hop : op = if neg then .NotIn else .In) (hu : X.A.units + 1 < cLine) (hb' : behindInMarks op b = false) (ha : PE X a (tE X.K W wa)) (hb : PE X b (tE X.K W wb)) :
    PE X (.Compare a [op] [b] pos) (tE X.K W fun ρ M Q X' => wa ρ M (fun x M1 => wb ρ M1 (fun y M2 => ∃ k, Vp.inV M2 x y = some k ∧ Q (.bl (if neg then !k else k)) M2) X') X') := by
  subst hop
  refine PE.weak (pe_cmpR (inop_ok hu neg) ha hb hb') fun σ H Q h => ?_
  obtain ⟨F, M, ρ, Q', X', s, r, h, pv, px⟩ := h
  exact two s r h px fun x y d1 d2 F2 M2 H2 st r1 r2 q => opl_in x y d1 d2 F2 H2 M2 Q Q' st.sat r1 r2 q (pv.step st)
theorem dt_isin {neg : Bool} {op : CmpOp} (hop : op = if neg then .NotIn else .In) (hu : X.A.units + 1 < cLine) (hb' : behindInMarks op b = false) (ha : PE X a (tE X.K W wa)) (hb : PE X b (tE X.K W wb)) :
    PT X (.Compare a [op] [b] pos) (tT X.K W fun ρ M Q X' => wa ρ M (fun x M1 => wb ρ M1 (fun y M2 => ∃ k, Vp.inV M2 x y = some k ∧ Q (if neg then !k else k) M2) X') X') := by
  subst hop
  refine PT.weak (pt_cmpR (inop_ok hu neg) ha hb hb') fun σ H Q h => ?_
  obtain ⟨F, M, ρ, Q', X', s, r, h, pv, px⟩ := h
  refine two s r h px fun x y d1 d2 F2 M2 H2 st r1 r2 q => ?_
  obtain ⟨k, e, q⟩ := q
  refine opl_in (neg := neg) x y d1 d2 F2 H2 M2 _ (fun d M' => d = .bl (if neg then !k else k) ∧ M' = M2) st.sat r1 r2 ⟨k, e, rfl, rfl⟩ fun dd M' ⟨e1, e2⟩ F' H' v st' r' => ?_
  subst e1 e2
  cases r'
  exact ⟨_, rfl, pv _ _ q F' H' (st.trans st')⟩
theorem de_glob {x : Str} {dd : D} (hg : Gl X x) (hn : okNm x = true) (h : CsIs X (x, dd)) : PE X (.Name x pos) (tE X.K W fun _ M Q _ => Q dd M) := by
  obtain ⟨v, u, hm, r, hr⟩ := h
  refine PE.weak (pe_glob hg hm r (okNm1 hn)) fun σ H Q h => ?_
  obtain ⟨F, M, ρ, Q', X', s, r, q, pv, px⟩ := h
  exact pv.here s q (hr F)
theorem de_dnew : PE X (.Dict [] [] pos) (tE X.K W fun _ M Q _ => ∀ p, M p = none → Q (.ref p) (updM M p (.dK []))) := by
  refine PE.weak pe_dnewK fun σ H Q h => ?_
  obtain ⟨F, M, ρ, Q', X', s, r, q, pv, px⟩ := h
  exact fun p hp => pv.freshM s (mo := .dK []) q hp ⟨[], rfl, rfl, .nil⟩
theorem m1_of {o e : Expr} {m : Str} {apos cpos : Pos} (h1 : attrOk o = true) (h2 : noStar e = true) (h3 : (apos.endLine == cpos.line) = true) : M1 X o m apos e cpos :=
  ⟨attrOk_ok h1, by rw [star_cons h2]; rfl, h3, by rw [star_cons h2]; rfl⟩
theorem m2_of {o e f : Expr} {m : Str} {apos cpos : Pos} (h1 : attrOk o = true) (h2 : noStar e = true) (h4 : noStar f = true) (h3 : (apos.endLine == cpos.line) = true) : M2 X o m apos e f cpos :=
  ⟨attrOk_ok h1, by rw [star_cons h2, star_cons h4]; rfl, h3, by rw [star_cons h2, star_cons h4]; rfl⟩
theorem dget_at {K : PySem.W.Frag} {F H : Hp} {M : Mo} {p : Addr} {kvs : List (Key × D)} {kk : Key} {y : V} {dy : D} (s : Sat K F H M) (e : M p = some (.dK kvs)) (ry : Rep K F y dy) (hk : keyD dy = some kk) :
    ∃ o, DGet H p y o ∧ ((o = none ∧ valD kvs kk = none) ∨ ∃ v d, o = some v ∧ valD kvs kk = some d ∧ Rep K F v d) := by
  obtain ⟨_, ho, h1, ws, rfl, hks, r2⟩ := s.m p _ e
  refine ⟨valV ws kk, .inl ⟨ws, kk, .inl h1, key_rep ry hk, rfl⟩, ?_⟩
  exact valV_rep hks r2
theorem de_get1 {o k : Expr} {apos : Pos} {wo wk : VE} (hu : X.A.units + 1 < cLine) (h1 : attrOk o = true) (h2 : noStar k = true) (h3 : (apos.endLine == pos.line) = true) (ho : PE X o (tE X.K W wo)) (hk : PE X k (tE X.K W wk)) :
    PE X (.Call (.Attribute o "get" apos) [k] [] pos) (tE X.K W fun ρ M Q X' => wo ρ M (fun x M1 => (∃ p kvs, x = .ref p ∧ M1 p = some (.dK kvs)) ∧ wk ρ M1 (fun y M2 => ∃ p kvs kk, x = .ref p ∧ M2 p = some (.dK kvs) ∧ keyD y = some kk ∧ Q ((valD kvs kk).getD .non) M2) X') X') := by
  refine PE.weak (pe_dget1 hu ho hk (m1_of h1 h2 h3)) fun σ H Q h => ?_
  obtain ⟨F, M, ρ, Q', X', s, r, h, pv, px⟩ := h
  refine ⟨F, M, ρ, _, X', s, r, h, fun d1 M1 ⟨⟨p, kvs, e1, e2⟩, h2⟩ F1 H1 v1 st1 r1 => ?_, px⟩
  subst e1
  cases r1
  obtain ⟨_, ho, hp, ws, rfl, hks, r2⟩ := st1.m p _ e2
  refine ⟨p, rfl, .inl ⟨ws, .inl hp⟩, F1, M1, ρ, _, X', st1.sat, r.mono st1.ff, h2, fun d2 M2 ⟨p', kvs2, kk, e3, e4, e5, q⟩ F2 H2 v2 st2 rk => ?_, px.step st1⟩
  cases e3
  obtain ⟨o, g, hc⟩ := dget_at st2.sat e4 rk e5
  refine ⟨o, g, ?_⟩
  rcases hc with ⟨rfl, hn⟩ | ⟨v, d, rfl, hd, rv⟩
  · rw [hn] at q; exact (pv.step (st1.trans st2)).here st2.sat q .non
  · rw [hd] at q; exact (pv.step (st1.trans st2)).here st2.sat q rv
theorem de_get2 {o k f : Expr} {apos : Pos} {wo wk wf : VE} (hu : X.A.units + 1 < cLine) (h1 : attrOk o = true) (h2 : noStar k = true) (h4 : noStar f = true) (h3 : (apos.endLine == pos.line) = true) (ho : PE X o (tE X.K W wo)) (hk : PE X k (tE X.K W wk)) (hf : PE X f (tE X.K W wf)) :
    PE X (.Call (.Attribute o "get" apos) [k, f] [] pos) (tE X.K W fun ρ M Q X' => wo ρ M (fun x M1 => (∃ p kvs, x = .ref p ∧ M1 p = some (.dK kvs)) ∧ wk ρ M1 (fun y M2 => wf ρ M2 (fun z M3 => ∃ p kvs kk, x = .ref p ∧ M3 p = some (.dK kvs) ∧ keyD y = some kk ∧ Q ((valD kvs kk).getD z) M3) X') X') X') := by
  refine PE.weak (pe_dget2 hu ho hk hf (m2_of h1 h2 h4 h3)) fun σ H Q h => ?_
  obtain ⟨F, M, ρ, Q', X', s, r, h, pv, px⟩ := h
  refine ⟨F, M, ρ, _, X', s, r, h, fun d1 M1 ⟨⟨p, kvs, e1, e2⟩, h2⟩ F1 H1 v1 st1 r1 => ?_, px⟩
  subst e1
  cases r1
  obtain ⟨_, ho, hp, ws, rfl, hks, r2⟩ := st1.m p _ e2
  refine ⟨p, rfl, .inl ⟨ws, .inl hp⟩, F1, M1, ρ, _, X', st1.sat, r.mono st1.ff, h2, fun d2 M2 h3 F2 H2 v2 st2 rk => ?_, px.step st1⟩
  have st12 := st1.trans st2
  refine ⟨F2, M2, ρ, _, X', st2.sat, r.mono st12.ff, h3, fun d3 M3 ⟨p', kvs2, kk, e3, e4, e5, q⟩ F3 H3 v3 st3 rz => ?_, px.step st12⟩
  cases e3
  obtain ⟨o, g, hc⟩ := dget_at st3.sat e4 (rk.mono st3.ff) e5
  refine ⟨o, g, ?_⟩
  rcases hc with ⟨rfl, hn⟩ | ⟨v, d, rfl, hd, rv⟩
  · rw [hn] at q; exact (pv.step (st12.trans st3)).here st3.sat q rz
  · rw [hd] at q; exact (pv.step (st12.trans st3)).here st3.sat q rv
/-! ### objects -/
theorem lookup_rep {F : Hp} {K : PySem.W.Frag} {f : Str} : ∀ {ws : List (Str × V)} {fs : List (Str × D)}, ws.map (·.1) = fs.map (·.1) → RepL K F (ws.map (·.2)) (fs.map (·.2)) → (ws.lookup f = none ∧ fs.lookup f = none) ∨ ∃ v d, ws.lookup f = some v ∧ fs.lookup f = some d ∧ Rep K F v d
  | [], [], _, _ => .inl ⟨rfl, rfl⟩
  | [], _ :: _, h, _ => by simp at h
  | _ :: _, [], h, _ => by simp at h
  | (a, v) :: ws, (b, d) :: kvs, h, r => by
    simp only [List.map_cons, List.cons.injEq] at h
    obtain ⟨h1, h2⟩ := h
    subst h1
    rw [List.map_cons, List.map_cons] at r
    cases r with
    | cons r1 r2 =>
      by_cases e : (f == a) = true
      · exact .inr ⟨v, d, by simp [List.lookup, e], by simp [List.lookup, e], r1⟩
      · have e' : (f == a) = false := by simpa using e
        simp only [List.lookup, e']
        exact lookup_rep h2 r2
theorem putF_rep {F : Hp} {K : PySem.W.Frag} {f : Str} {v : V} {d : D} (rv : Rep K F v d) : ∀ {ws : List (Str × V)} {fs : List (Str × D)}, ws.map (·.1) = fs.map (·.1) → RepL K F (ws.map (·.2)) (fs.map (·.2)) → (putF f v ws).map (·.1) = (putFD f d fs).map (·.1) ∧ RepL K F ((putF f v ws).map (·.2)) ((putFD f d fs).map (·.2))
  | [], [], _, _ => ⟨rfl, .cons rv .nil⟩
  | [], _ :: _, h, _ => by simp at h
  | _ :: _, [], h, _ => by simp at h
  | (a, w) :: ws, (b, e) :: kvs, h, r => by
    simp only [List.map_cons, List.cons.injEq] at h
    obtain ⟨h1, h2⟩ := h
    subst h1
    rw [List.map_cons, List.map_cons] at r
    cases r with
    | cons r1 r2 =>
      unfold putF putFD
      by_cases e : a = f
      · rw [if_pos e, if_pos e]
        rw [List.map_cons, List.map_cons, h2]
        exact ⟨rfl, .cons rv r2⟩
      · rw [if_neg e, if_neg e]
        obtain ⟨j1, j2⟩ := putF_rep rv h2 r2
        rw [List.map_cons, List.map_cons, j1]
        exact ⟨rfl, .cons r1 j2⟩
theorem de_fld {o : Expr} {f : Str} {wo : VE} {fls : List (Addr × Str)} (h1 : attrOk o = true) (hf : ∀ y ∈ fls, Cls X.K y.1 ∧ NoAttr X.K y.1 y.2) (ho : PE X o (tE X.K W wo)) :
    PE X (.Attribute o f pos) (tE X.K W fun ρ M Q X' => wo ρ M (fun x M1 => ∃ p C fs d, x = .ref p ∧ M1 p = some (.ins C fs) ∧ (C, f) ∈ fls ∧ fs.lookup f = some d ∧ Q d M1) X') := by
  refine PE.weak (pe_fld ho (attrOk_ok h1)) fun σ H Q h => ?_
  obtain ⟨F, M, ρ, Q', X', s, r, h, pv, px⟩ := h
  refine ⟨F, M, ρ, _, X', s, r, h, fun d1 M1 ⟨p, C, fs, d, e1, e2, hm, hl, q⟩ F1 H1 v1 st1 r1 => ?_, px⟩
  subst e1
  cases r1
  obtain ⟨_, ho, hp, dx, ws, rfl, hks, r2⟩ := st1.m p _ e2
  obtain ⟨c1, c2⟩ := hf _ hm
  rcases lookup_rep (f := f) hks r2 with ⟨_, hn⟩ | ⟨v, d', h3, h4, rv⟩
  · rw [hn] at hl; cases hl
  · rw [h4] at hl; cases hl
    exact ⟨p, C, dx, ws, v, rfl, hp, c1, c2, h3, (pv.step st1).here st1.sat q rv⟩
theorem make_ok {K : PySem.W.Frag} {F H : Hp} {M : Mo} {C x dx : Addr} (s : Sat K F H M) (h1 : H x = none) (h2 : H dx = none) (ne : dx ≠ x) : Step K F M H F (updM M x (.ins C [])) (upd (upd H dx (.own x)) x (.ins C dx [])) := by
  have st := s.newH h2 (.own x)
  have hx : (upd H dx (.own x)) x = none := by rw [upd_ne ne.symm]; exact h1
  exact st.trans (st.sat.newM hx (mo := .ins C []) ⟨dx, [], rfl, rfl, .nil⟩)
/-- a new instance's __init__, exceptions with the slots they find -/
theorem init_run {CX : CXT} {k : Nat} {f C : Addr} {fd : FuncData} {ps : List Str} {sp : Sp} {E : XK} {pins : List (Addr × Obj)} {σ : L2.St} {H : Hp} {s : Shared} {Q : VK} {us : List Value} {vs : List V}
    (mk : Mk X.K C f) (ok : FnOk X.prog X.w X.K X.mg X.base CX k f fd ps sp) (room : Room (k + 1) X.A) (bn : Binds X.K fd ps []) (ex : PassesAt CX X σ E) (inv : Inv X pins σ H s) (rv : Vals vs us)
    (h : ∀ x dx, H x = none → H dx = none → dx ≠ x → sp (.ref x :: vs) (upd (upd H dx (.own x)) x (.ins C dx [])) (fun v H2 => v = .non ∧ Q (.ref x) H2) E) :
    wpAny (model X.prog X.w) X.A (call (.ref C) us) (EP X pins σ Q) X.xe s := by
  have wish := h (s.heap.objs.size + 1) s.heap.objs.size (inv.hok.fresh (Nat.le_succ _)) (inv.hok.fresh (Nat.le_refl _)) (Nat.ne_of_lt (Nat.lt_succ_self _))
  have inv2 := Inv.made (C := C) inv
  have rv2 : Vals (V.ref (s.heap.objs.size + 1) :: vs) (Value.ref (s.heap.objs.size + 1) :: us) := .cons rfl rv
  have len : (Value.ref (s.heap.objs.size + 1) :: us).length = ps.length := by rw [← rv2.length]; exact ok.len _ _ _ _ wish
  have bn2 := bn _ (Value.ref (s.heap.objs.size + 1) :: us) inv2.kIn (by rw [List.append_nil]; exact len)
  rw [List.append_nil] at bn2
  have run := ok.run _ X.stack _ _ ⟨Value.ref (s.heap.objs.size + 1) :: us, []⟩ _ _ _ E (room.make C us []) (inv2.env0.make C us []) bn2 rv2 wish
  refine wpAny_call (make_map (f := f) inv.kIn mk.makes mk.init (beq_iff_eq.mp mk.fn) (codeAny_mono run fun r s' got => ?_))
  cases r with
  | error e => exact ex pins _ _ e s' inv2 got
  | ok fl =>
    cases fl with
    | next => exact got.elim
    | brk => exact got.elim
    | cont => exact got.elim
    | ret u =>
      obtain ⟨v, H', inv3, ru, ev, q3⟩ := inv2.after got
      subst ev
      exact ⟨ru, V.ref (s.heap.objs.size + 1), H', inv3, rfl, q3⟩
theorem make_key {wl : WL} {g : Cl} {σ : L2.St} {H : Hp} {Q : VK} (h : tE X.K W (fun ρ M Q X' => wl ρ M (fun ds M1 => ds.length + 1 = g.n ∧ ∀ p, M1 p = none → g.con (.ref p :: ds) (updM M1 p (.ins g.cls [])) (fun r M2 => r = .non ∧ Q (.ref p) M2) X') X') σ H Q) :
    tL X.K W wl σ H fun vs H1 => ∀ x dx, H1 x = none → H1 dx = none → dx ≠ x → spOf X.K g.n g.con (.ref x :: vs) (upd (upd H1 dx (.own x)) x (.ins g.cls dx [])) (fun v H2 => v = .non ∧ Q (.ref x) H2) (L2.WE W σ) := by
  obtain ⟨F, M, ρ, Q', X', s, r, h, pv, px⟩ := h
  refine ⟨F, M, ρ, _, X', s, r, h, fun ds M1 ⟨hl, q⟩ F1 H1 vs st1 r1 x dx h1 h2 ne => ?_, px⟩
  have st2 := make_ok (C := g.cls) st1.sat h1 h2 ne
  have st := st1.trans st2
  refine ⟨F1, _, .ref x :: ds, _, X', st2.sat, .cons (.ref x) r1, by simpa using hl, q x (st1.sat.none h1).2, fun d M' ⟨e, q'⟩ F' H' v st' rv => ?_, px.step st⟩
  subst e
  cases rv
  exact ⟨rfl, pv _ _ q' F' H' _ (st.trans st') (.ref x)⟩
theorem de_make {a : Expr} {es : List Expr} {wl : WL} {k : Nat} {g : Cl} {x : Str} {p : Pos} (hr : Room k X.A) (hf : MkIs X k g) (tk : L2N.Takes X W) (hx : g.name = x) (hg : Gl X x) (hn : okNm x = true) (ha : PA X (a :: es) (tL X.K W wl)) (hs : (a :: es).all noStar = true) :
    PE X (.Call (.Name x p) (a :: es) [] pos) (tE X.K W fun ρ M Q X' => wl ρ M (fun ds M1 => ds.length + 1 = g.n ∧ ∀ p, M1 p = none → g.con (.ref p :: ds) (updM M1 p (.ins g.cls [])) (fun r M2 => r = .non ∧ Q (.ref p) M2) X') X') := by
  subst hx
  obtain ⟨j, f, fd, ps, hj, mk, F0, hm, hb⟩ := hf
  obtain ⟨h1, h2⟩ := Bool.and_eq_true_iff.mp (by simpa using hs : (noStar a && es.all noStar) = true)
  refine ⟨fun pins s σ H Q I h => ?_⟩
  refine wpAny_Call_Name_kw (ld_glob I hg hm ?_ (okNm1 hn))
  refine PySem.W.callWith_K (h₀ := X.base) I.ok.mod.kin mk.kp (thn (ha.run pos pins s σ H _ I (make_key h)) fun us s1 got => ?_) (star_cons h1) (star_any h2)
  obtain ⟨vs, H1, I1, r, q⟩ := got
  exact ⟨I1.kIn, init_run mk F0 (hr.mono hj) hb (L2N.passAt tk σ) I1 r q⟩
theorem de_make0 {k : Nat} {g : Cl} {x : Str} {p : Pos} (hr : Room k X.A) (hf : MkIs X k g) (tk : L2N.Takes X W) (hx : g.name = x) (hg : Gl X x) (hn : okNm x = true) :
    PE X (.Call (.Name x p) [] [] pos) (tE X.K W fun ρ M Q X' => ([] : List D).length + 1 = g.n ∧ ∀ p, M p = none → g.con [.ref p] (updM M p (.ins g.cls [])) (fun r M2 => r = .non ∧ Q (.ref p) M2) X') := by
  subst hx
  obtain ⟨j, f, fd, ps, hj, mk, F0, hm, hb⟩ := hf
  refine ⟨fun pins s σ H Q I h => ?_⟩
  refine wpAny_Call_Name_kw (ld_glob I hg hm ?_ (okNm1 hn))
  refine PySem.W.callWith_K0 I.kIn mk.kp (init_run (us := []) mk F0 (hr.mono hj) hb (L2N.passAt tk σ) I .nil ?_)
  obtain ⟨F, M, ρ, Q', X', s, r, h, pv, px⟩ := h
  intro x dx h1 h2 ne
  obtain ⟨hl, q⟩ := h
  have st2 := make_ok (C := g.cls) s h1 h2 ne
  refine ⟨F, _, [.ref x], _, X', st2.sat, .cons (.ref x) .nil, by simpa using hl, q x (s.none h1).2, fun d M' ⟨e, q'⟩ F' H' v st' rv => ?_, px.step st2⟩
  subst e
  cases rv
  exact ⟨rfl, pv _ _ q' F' H' _ (st2.trans st') (.ref x)⟩
theorem meth_eval {o : Expr} {m : Str} {es : List Expr} {apos cpos : Pos} {env : Env} (h : attrOk o = true) (hs : es.all noStar = true) (hn : es.length < 30) (hl : (apos.endLine == cpos.line) = true) : ∃ pl : Sem Bool, eval (.Call (.Attribute o m apos) es [] cpos) env = (do
      let ov ← eval o env
      standAt apos.atName
      let (f, first) ← holding [ov] (getMethod ov m pl)
      callWith cpos f first (backTo cpos (starEach es env)) (backToKw cpos (keywordEach [] env))) := by
  have hform : methodCallForm (es.length + ([] : List Keyword).length) (backTo cpos (starEach es env)) (backToKw cpos (keywordEach [] env)) = true := by
    have h1 := star_any (env := env) (pos := cpos) hs
    have h2 : (backTo cpos (starEach es env)).all (fun x => !x.1) = true := by
      rw [← Bool.not_eq_true', List.any_eq_not_all_not] at *
      simpa using h1
    unfold methodCallForm
    rw [h2]
    simp [hn, backToKw, keywordEach]
  have hpos : methodCallPos true o env apos cpos = pure cpos := by unfold methodCallPos; simp [hl]
  refine ⟨(do return (← importBound o env).getD true), ?_⟩
  rw [arm_eval_Call, attrOk_ok h]
  unfold methodCall
  rw [hform]
  unfold calleeOf
  simp only [if_true, hpos, pure_bind]
theorem de_meth {o a : Expr} {es : List Expr} {wo : VE} {wl : WL} {k : Nat} {g : Cl} {m : Str} {apos : Pos} (hr : Room k X.A) (hf : MtIs X k g) (tk : L2N.Takes X W) (hx : g.name = m) (hm : attrOk o = true) (hl30 : (a :: es).length < 30) (hln : (apos.endLine == pos.line) = true) (ho : PE X o (tE X.K W wo)) (ha : PA X (a :: es) (tL X.K W wl)) (hs : (a :: es).all noStar = true) :
    PE X (.Call (.Attribute o m apos) (a :: es) [] pos) (tE X.K W fun ρ M Q X' => wo ρ M (fun x M1 => ∃ p fs, x = .ref p ∧ M1 p = some (.ins g.cls fs) ∧ fs.lookup g.name = none ∧ wl ρ M1 (fun ds M2 => ds.length + 1 = g.n ∧ g.con (x :: ds) M2 Q X') X') X') := by
  subst hx
  obtain ⟨f, fd, ps, hc, mt, F0, hb⟩ := hf
  obtain ⟨h1, h2⟩ := Bool.and_eq_true_iff.mp (by simpa using hs : (noStar a && es.all noStar) = true)
  obtain ⟨pl, he⟩ := meth_eval (m := g.name) (es := a :: es) (apos := apos) (cpos := pos) (env := X.env) hm hs hl30 hln
  refine ⟨fun pins s σ H Q I h => ?_⟩
  obtain ⟨F, M, ρ, Q', X', st, re, h, pv, px⟩ := h
  refine PySem.W.methodCall_KW (pl := pl) (thn (ho.run pins s σ H (fun x H1 => ∃ p dx ws, x = .ref p ∧ H1 p = some (.ins g.cls dx ws) ∧ ws.lookup g.name = none ∧ tL X.K W wl σ H1 fun vs H2 => spOf X.K g.n g.con (x :: vs) H2 Q (L2.WE W σ)) I
    ⟨F, M, ρ, _, X', st, re, h, fun d1 M1 ⟨p, fs, e1, e2, e3, q⟩ F1 H1 v1 st1 r1 => ?_, px⟩) fun u s1 got => ?_) he
  · subst e1
    cases r1
    obtain ⟨_, hho, hp, dx, ws, rfl, hks, r2⟩ := st1.m p _ e2
    have hn : ws.lookup g.name = none := by
      rcases lookup_rep (f := g.name) hks r2 with ⟨z, _⟩ | ⟨v, d, _, z, _⟩
      · exact z
      · rw [z] at e3; cases e3
    refine ⟨p, dx, ws, rfl, hp, hn, F1, M1, ρ, _, X', st1.sat, re.mono st1.ff, q, fun ds M2 ⟨hl, qc⟩ F2 H2 vs st2 rl => ?_, px.step st1⟩
    exact ⟨F2, M2, .ref p :: ds, Q', X', st2.sat, .cons (.ref p) rl, by simpa using hl, qc, pv.step (st1.trans st2), px.step (st1.trans st2)⟩
  · obtain ⟨x, H1, I1, rx, p, dx, ws, e1, e2, e3, q⟩ := got
    subst e1
    obtain rfl : u = Value.ref p := rx
    refine getmeth_ok I1 e2 hc mt e3 ?_
    refine PySem.W.callWith_K (first := [.ref p]) (h₀ := X.base) I.ok.mod.kin mt.kp (thn (ha.run pos pins s1 σ H1 _ I1 q) fun us s2 got => ?_) (star_cons h1) (star_any h2)
    obtain ⟨vs, H2, I2, r, q2⟩ := got
    exact ⟨I2.kIn, run_fnS (us := .ref p :: us) (vs := .ref p :: vs) F0 hr hb (L2N.passAt tk σ) I2 (.cons rfl r) q2⟩
theorem de_meth0 {o : Expr} {wo : VE} {k : Nat} {g : Cl} {m : Str} {apos : Pos} (hr : Room k X.A) (hf : MtIs X k g) (tk : L2N.Takes X W) (hx : g.name = m) (hm : attrOk o = true) (hln : (apos.endLine == pos.line) = true) (ho : PE X o (tE X.K W wo)) :
    PE X (.Call (.Attribute o m apos) [] [] pos) (tE X.K W fun ρ M Q X' => wo ρ M (fun x M1 => ∃ p fs, x = .ref p ∧ M1 p = some (.ins g.cls fs) ∧ fs.lookup g.name = none ∧ ([] : List D).length + 1 = g.n ∧ g.con [x] M1 Q X') X') := by
  subst hx
  obtain ⟨f, fd, ps, hc, mt, F0, hb⟩ := hf
  obtain ⟨pl, he⟩ := meth_eval (m := g.name) (es := []) (apos := apos) (cpos := pos) (env := X.env) hm rfl (by decide) hln
  refine ⟨fun pins s σ H Q I h => ?_⟩
  obtain ⟨F, M, ρ, Q', X', st, re, h, pv, px⟩ := h
  refine PySem.W.methodCall_KW (pl := pl) (thn (ho.run pins s σ H (fun x H1 => ∃ p dx ws, x = .ref p ∧ H1 p = some (.ins g.cls dx ws) ∧ ws.lookup g.name = none ∧ spOf X.K g.n g.con [x] H1 Q (L2.WE W σ)) I
    ⟨F, M, ρ, _, X', st, re, h, fun d1 M1 ⟨p, fs, e1, e2, e3, hl, qc⟩ F1 H1 v1 st1 r1 => ?_, px⟩) fun u s1 got => ?_) he
  · subst e1
    cases r1
    obtain ⟨_, hho, hp, dx, ws, rfl, hks, r2⟩ := st1.m p _ e2
    have hn : ws.lookup g.name = none := by
      rcases lookup_rep (f := g.name) hks r2 with ⟨z, _⟩ | ⟨v, d, _, z, _⟩
      · exact z
      · rw [z] at e3; cases e3
    exact ⟨p, dx, ws, rfl, hp, hn, F1, M1, [.ref p], Q', X', st1.sat, .cons (.ref p) .nil, by simpa using hl, qc, pv.step st1, px.step st1⟩
  · obtain ⟨x, H1, I1, rx, p, dx, ws, e1, e2, e3, q⟩ := got
    subst e1
    obtain rfl : u = Value.ref p := rx
    refine getmeth_ok I1 e2 hc mt e3 ?_
    exact PySem.W.callWith_K0 (first := [.ref p]) I1.kIn mt.kp (run_fnS (us := [.ref p]) (vs := [.ref p]) F0 hr hb (L2N.passAt tk σ) I1 (.cons rfl .nil) q)
/-- a function in a local name -/
theorem de_callv {a : Expr} {es : List Expr} {wl : WL} {i k : Nat} {x : Str} {p : Pos} {Γ : Gam} (hr : Room k X.A) (hfn : ∀ g ∈ Γ.fns, FnIs X k g) (hcs : ∀ y ∈ Γ.cs, CsIs X y) (tk : L2N.Takes X W) (hN : X.N[i]? = some x) (hv : Vis X.env.scope x) (hn : okNm x = true) (ha : PA X (a :: es) (tL X.K W wl)) (hs : (a :: es).all noStar = true) :
    PE X (.Call (.Name x p) (a :: es) [] pos) (tE X.K W fun ρ M Q X' => ∃ ad g, ρ[i]? = some (some (.ref ad)) ∧ g ∈ Γ.fns ∧ (g.name, .ref ad) ∈ Γ.cs ∧ wl ρ M (fun ds M1 => ds.length = g.n ∧ g.con ds M1 Q X') X') := by
  obtain ⟨h1, h2⟩ := Bool.and_eq_true_iff.mp (by simpa using hs : (noStar a && es.all noStar) = true)
  refine ⟨fun pins s σ H Q I h => ?_⟩
  obtain ⟨F, M, ρ, Q', X', st, re, ⟨ad, g, e1, hg, hc, hw⟩, pv, px⟩ := h
  obtain ⟨f, fd, ps, F0, hm, hk, hb⟩ := hfn g hg
  obtain ⟨v, u, hm2, rv, hrep⟩ := hcs _ hc
  have ef : u = .ref f := Option.some.inj (hm2.symm.trans hm)
  have ev : v = .ref ad := by
    have := hrep F
    cases this
    rfl
  subst ev
  have ea : ad = f := by
    have z : u = Value.ref ad := rv
    rw [ef] at z
    cases z; rfl
  subst ea
  obtain ⟨v', hv', rv'⟩ := re.get i _ e1
  cases rv'
  refine wpAny_Call_Name_kw (thn ((pe_var (pos := p) (i := i) hN hv (okNm1 hn) (okNm2 hn)).run pins s σ H (fun v H1 => v = .ref ad ∧ H1 = H) I ⟨.ref ad, hv', rfl, rfl⟩) fun u1 s1 got => ?_)
  obtain ⟨v1, H1, I1, r1, e2, e3⟩ := got
  subst e2
  rw [e3] at I1
  cases r1
  refine PySem.W.callWith_K (h₀ := X.base) I.ok.mod.kin hk (thn (ha.run pos pins s1 σ H (fun vs H2 => spOf X.K g.n g.con vs H2 Q (L2.WE W σ)) I1 ⟨F, M, ρ, _, X', st, re, hw, fun ds M1 ⟨hl, q⟩ F1 H1 vs st1 r1 => ?_, px⟩) fun us s2 got => ?_) (star_cons h1) (star_any h2)
  · exact ⟨F1, M1, ds, Q', X', st1.sat, r1, hl, q, pv.step st1, px.step st1⟩
  · obtain ⟨vs, H2, I2, r, q⟩ := got
    exact ⟨I2.kIn, run_fnS F0 hr hb (L2N.passAt tk σ) I2 r q⟩
theorem de_ddisp {k v : Expr} {wk wv : VE} (hk : PE X k (tE X.K W wk)) (hv : PE X v (tE X.K W wv)) :
    PE X (.Dict [some k] [v] pos) (tE X.K W fun ρ M Q X' => ∀ p, M p = none → wk ρ (updM M p (.dK [])) (fun x M1 => wv ρ M1 (fun y M2 => M2 p = some (.dK []) ∧ ∃ kk, keyD x = some kk ∧ Q (.ref p) (updM M2 p (.dK [(kk, y)]))) X') X') := by
  refine PE.weak (pe_disp (pps_cons hk hv pps_nil) rfl rfl (fun z => nomatch z) (Nat.le_of_ble_eq_true rfl)) fun σ H Q h => ?_
  obtain ⟨F, M, ρ, Q', X', s, r, h, pv, px⟩ := h
  intro p hp
  have st0 := s.newM hp (o := .dK []) (mo := .dK []) ⟨[], rfl, rfl, .nil⟩
  refine ⟨F, _, ρ, _, X', st0.sat, r, h p (s.none hp).2, fun x M1 h1 F1 H1 v1 st1 r1 => ?_, px.step st0⟩
  refine ⟨F1, M1, ρ, _, X', st1.sat, r.mono st1.ff, h1, fun y M2 ⟨e, kk, ek, q⟩ F2 H2 v2 st2 r2 => ?_, px.step (st0.trans st1)⟩
  obtain ⟨_, ho, hp2, ws, rfl, hks, rr⟩ := st2.m p _ e
  have ew : ws = [] := by
    cases ws with
    | nil => rfl
    | cons _ _ => simp at hks
  subst ew
  refine ⟨hp2, [(kk, v2)], ?_, (by show 1 ≤ 15; decide), ?_⟩
  · rw [key_rep (r1.mono st2.ff) ek]; rfl
  · have st := (st0.trans st1).trans st2
    exact pv _ _ q F2 _ _ (st.trans (st2.sat.write e (o := .dK (mergeK [] [(kk, v2)])) ⟨[(kk, v2)], rfl, rfl, .cons r2 .nil⟩)) (.ref p)
end

/-! ### [..] * n, pop, dicts with tuple keys, calls that change nothing -/
section
variable {X : Cx} {W : WX} {wa wb wc : VE} {a b d : Expr} {pos : Pos}
theorem flatten_rep {K : PySem.W.Frag} {F : Hp} {vs : List V} {ds : List D} (r : RepL K F vs ds) : ∀ k : Nat, RepL K F (List.replicate k vs).flatten (List.replicate k ds).flatten
  | 0 => .nil
  | k + 1 => by
    rw [List.replicate_succ, List.replicate_succ, List.flatten_cons, List.flatten_cons]
    exact r.append (flatten_rep r k)
theorem de_rep {es : List Expr} {wl : WL} {m : Bool} {p : Pos} (h : PA X es (tL X.K W wl)) (hb : PE X b (tE X.K W wb)) :
    PE X (.BinOp (.List es p) .Mult b pos) (tE X.K W fun ρ M Q X' => wl ρ M (fun ds M1 => ds.length ≤ 16777216 ∧ wb ρ M1 (fun y M2 => ∃ k : Int, y = .int k ∧ (-(2 ^ 62) ≤ k ∧ k < 2 ^ 62 ∧ ds.length * k.toNat ≤ 16777216) ∧ if m = true then ∀ p, M2 p = none → Q (.ref p) (updM M2 p (.lst (List.replicate k.toNat ds).flatten)) else Q (.lst (List.replicate k.toNat ds).flatten) M2) X') X') := by
  refine PE.weak (pe_op op_rep (pe_lst h) hb) fun σ H Q h => ?_
  obtain ⟨F, M, ρ, Q', X', s, r, h, pv, px⟩ := h
  refine ⟨F, M, ρ, _, X', s, r, h, fun ds M1 ⟨hz, h1⟩ F1 H1 vs st1 r1 => ⟨szl (by rw [r1.length]; exact hz), fun q hq => ?_⟩, px⟩
  have stn := st1.sat.newH hq (.lst vs)
  have st2 := st1.trans stn
  refine ⟨F1, M1, ρ, _, X', stn.sat, r.mono st1.ff, h1, fun y M2 ⟨k, e, ⟨k1, k2, k3⟩, q2⟩ F2 H2 u st3 ru => ?_, px.step st2⟩
  subst e
  cases ru
  have hp : H2 q = some (.lst vs) := st3.keep q _ upd_same (by exact (st1.sat.none hq).2)
  have st := st2.trans st3
  refine ⟨q, k, vs, rfl, rfl, hp, by omega, by omega, by rw [r1.length, sizeLine_eq]; exact k3, fun t ht => ?_⟩
  have rr := flatten_rep (r1.mono st3.ff) k.toNat
  cases m with
  | true => exact (pv.step st).freshM st3.sat (mo := .lst _) (by simpa using q2) ht ⟨_, rfl, rr⟩
  | false => exact (pv.step st).fresh st3.sat (d := .lst _) (by simpa using q2) ht (new_lst st3.sat ht rr)
theorem keys_rep {K : PySem.W.Frag} {F : Hp} : ∀ {vs : List V} {ds : List D} {ks : List Key}, RepL K F vs ds → keyL ds = some ks → vs = ks.map kV
  | _, _, ks, .nil, h => by cases h; rfl
  | _, d :: ds, ks, .cons r t, h => by
    unfold keyL at h
    cases e1 : keyD d with
    | none => rw [e1] at h; cases h
    | some k =>
      cases e2 : keyL ds with
      | none => rw [e1, e2] at h; cases h
      | some kk =>
        rw [e1, e2] at h; cases h
        rw [key_rep r e1, keys_rep t e2, List.map_cons]
theorem de_dnewT : PE X (.Dict [] [] pos) (tE X.K W fun _ M Q _ => ∀ p, M p = none → Q (.ref p) (updM M p (.dT []))) := by
  refine PE.weak pe_dnewT fun σ H Q h => ?_
  obtain ⟨F, M, ρ, Q', X', s, r, q, pv, px⟩ := h
  exact fun p hp => pv.freshM s (mo := .dT []) q hp ⟨[], rfl, rfl, .nil⟩
theorem de_ixT {es : List Expr} {wl : WL} {k : Nat} {p : Pos} (hu : X.A.units + 1 < cLine) (ha : PE X a (tE X.K W wa)) (he : PA X es (tL X.K W wl)) :
    PE X (.Subscript a (.Tuple es k p) pos) (tE X.K W fun ρ M Q X' => wa ρ M (fun x M1 => wl ρ M1 (fun ds M2 => ∃ p kvs ks d, x = .ref p ∧ M2 p = some (.dT kvs) ∧ keyL ds = some ks ∧ valD kvs ks = some d ∧ ds.length ≤ 16777216 ∧ Q d M2) X') X') := by
  refine PE.weak (pe_ix (ix_dict hu) ha (pe_tup he) (fun _ _ => rfl)) fun σ H Q h => ?_
  obtain ⟨F, M, ρ, Q', X', s, r, h, pv, px⟩ := h
  refine ⟨F, M, ρ, _, X', s, r, h, fun d1 M1 h1 F1 H1 v1 st1 r1 => ?_, px⟩
  refine ⟨F1, M1, ρ, _, X', st1.sat, r.mono st1.ff, h1, fun ds M2 ⟨p, kvs, ks, d, e1, e2, e3, e4, hz, q⟩ F2 H2 vs st2 r2 => ⟨szl (by rw [r2.length]; exact hz), fun t ht => ?_⟩, px.step st1⟩
  subst e1
  cases r1
  have stn := st2.sat.newH ht (.tup vs)
  obtain ⟨_, ho, h2, ws, rfl, hk, r3⟩ := stn.sat.m p _ e2
  have e5 := keys_rep r2 e3
  rcases valV_rep (k := ks) hk r3 with ⟨_, hn⟩ | ⟨v, d', hv, hd, rv⟩
  · rw [hn] at e4; cases e4
  · rw [hd] at e4; cases e4
    exact ⟨p, v, rfl, .inr ⟨ws, ks, t, .inl h2, rfl, by rw [upd_same, e5], hv.symm⟩, pv _ _ q F2 _ _ ((st1.trans st2).trans stn) rv⟩
theorem de_pop (h1 : attrOk a = true) {apos : Pos} (hl : (apos.endLine == pos.line) = true) (ha : PE X a (tE X.K W wa)) :
    PE X (.Call (.Attribute a "pop" apos) [] [] pos) (tE X.K W fun ρ M Q X' => wa ρ M (fun x M1 => ∃ p xs y, x = .ref p ∧ M1 p = some (.lst xs) ∧ xs[xs.length - 1]? = some y ∧ Q y (updM M1 p (.lst xs.dropLast))) X') := by
  refine PE.weak (pe_bm0 PySem.F.plainAttrs_list PySem.F.slot_list_pop PySem.F.type_list_pop mt_pop ha (attrOk_ok h1) hl) fun σ H Q h => ?_
  obtain ⟨F, M, ρ, Q', X', s, r, h, pv, px⟩ := h
  refine ⟨F, M, ρ, _, X', s, r, h, fun d1 M1 ⟨p, xs, y, e1, e2, e3, q⟩ F1 H1 v1 st1 r1 => ?_, px⟩
  subst e1
  cases r1
  obtain ⟨_, ho, hp, ws, rfl, r2⟩ := st1.sat.m p _ e2
  obtain ⟨v, hv, rv⟩ := r2.get e3
  refine ⟨.inl ⟨rfl, ws, .inl (.inl hp)⟩, p, ws, v, rfl, rfl, hp, by rw [r2.length]; exact hv, ?_⟩
  have rd : RepL X.K F1 ws.dropLast xs.dropLast := by
    rw [List.dropLast_eq_take, List.dropLast_eq_take, r2.length]
    exact r2.take _
  exact pv _ _ q F1 _ _ (st1.trans (st1.sat.write e2 (o := .lst ws.dropLast) ⟨_, rfl, rd⟩)) rv
theorem de_idx {o x k : Expr} {apos : Pos} {wo wx wk : VE} (h1 : attrOk o = true) (h2 : noStar x = true) (h3 : noStar k = true) (hl : (apos.endLine == pos.line) = true) (ho : PE X o (tE X.K W wo)) (hx : PE X x (tE X.K W wx)) (hk : PE X k (tE X.K W wk)) :
    PE X (.Call (.Attribute o "index" apos) [x, k] [] pos) (tE X.K W fun ρ M Q X' => wo ρ M (fun u M1 => (∃ ds, seqL' M1 u = some ds) ∧ wx ρ M1 (fun v M2 => wk ρ M2 (fun w M3 => ∃ (ds : List D) (i j : Nat) (z : D), seqL' M3 u = some ds ∧ w = .int (i : Nat) ∧ flatD v = true ∧ ds.all flatD = true ∧ i ≤ j ∧ ds[j]? = some z ∧ eqFl z v = true ∧ (∀ (m : Nat) (z' : D), i ≤ m → m < j → ds[m]? = some z' → eqFl z' v = false) ∧ Q (.int (j : Nat)) M3) X') X') X') := by
  refine PE.weak (pe_bm PySem.F.plainAttrs_list PySem.F.slot_list_index PySem.F.type_list_index mt_indexFrom ho (pa_cons hx (pa_cons hk pa_nil (star_cons h3)) (star_cons h2)) (attrOk_ok h1) (by rw [star_cons h2, star_cons h3]; rfl) hl (star_cons h2) (by rw [star_cons h3]; rfl)) fun σ H Q h => ?_
  obtain ⟨F, M, ρ, Q', X', s, r, h, pv, px⟩ := h
  refine ⟨F, M, ρ, _, X', s, r, h, fun u M1 ⟨⟨ds0, e0⟩, h2⟩ F1 H1 v1 st1 r1 => ?_, px⟩
  obtain ⟨a, xs0, rfl, rl0, hs0⟩ := lst_rep st1.sat r1 e0
  refine ⟨.inl ⟨rfl, xs0, hs0⟩, F1, M1, ρ, _, X', st1.sat, r.mono st1.ff, h2, fun v M2 h3 F2 H2 v2 st2 r2 => ?_, px.step st1⟩
  have st12 := st1.trans st2
  refine ⟨F2, M2, ρ, _, X', st2.sat, r.mono st12.ff, h3, fun w M3 ⟨ds, i, j, z, e1, e2, f1, f2, hij, hz, hq, hno, q⟩ F3 H3 v3 st3 r3 => ?_, px.step st12⟩
  subst e2
  cases r3
  have rv := r2.mono st3.ff
  obtain ⟨a', xs, ea, rl, hs⟩ := lst_rep st3.sat (r1.mono (st2.ff.trans st3.ff)) e1
  cases ea
  obtain ⟨y, hy, ry⟩ := rl.get hz
  have hall := List.all_eq_true.mp f2
  refine ⟨a, xs, v2, i, j, y, rfl, rfl, hs, flat_rep rv f1, flats_rep rl f2, hij, hy, ?_, fun m z' hm1 hm2 hz' => ?_, (pv.step (st12.trans st3)).here st3.sat q (.int _)⟩
  · rw [eqFl_rep ry rv (hall z (List.mem_of_getElem? hz)) f1]; exact hq
  · obtain ⟨d', hd', rd'⟩ := rl.getV hz'
    rw [eqFl_rep rd' rv (hall d' (List.mem_of_getElem? hd')) f1]
    exact hno m d' hm1 hm2 hd'
/-! what may change, as if it would not -/
def borF (F H : Hp) (M : Mo) : Hp := fun a => match M a with | some (.lst _) => H a | _ => F a
theorem borF_lst {F H : Hp} {M : Mo} {a : Addr} {ds : List D} (h : M a = some (.lst ds)) : borF F H M a = H a := by unfold borF; rw [h]
theorem borF_none {F H : Hp} {M : Mo} {a : Addr} (h : M a = none) : borF F H M a = F a := by unfold borF; rw [h]
theorem borF_tbl {F H : Hp} {M : Mo} {a : Addr} (h : M a = some .tbl) : borF F H M a = F a := by unfold borF; rw [h]
section
variable {K : PySem.W.Frag} {F H : Hp} {M : Mo}
theorem bor_ff (s : Sat K F H M) : Ex F (borF F H M) := fun a o h => by
  cases e : M a with
  | none => rw [borF_none e]; exact h
  | some mo => rw [(s.m a mo e).1] at h; cases h
theorem bor_fh (s : Sat K F H M) : Ex (borF F H M) H := fun a o h => by
  cases e : M a with
  | none => rw [borF_none e] at h; exact s.ex a o h
  | some mo =>
    cases mo with
    | lst ds => rw [borF_lst e] at h; exact h
    | _ => unfold borF at h; rw [e] at h; exact s.ex a o h
mutual
theorem Rep.bor (s : Sat K F H M) : ∀ {v : V} {d : D}, Rep K F v d → Rep K (borF F H M) v (viewD M d)
  | _, _, .non => .non
  | _, _, .bl b => .bl b
  | _, _, .int i => .int i
  | _, _, .str x => .str x
  | _, _, .ref a => by
    unfold viewD
    cases e : M a with
    | none => exact .ref a
    | some mo =>
      cases mo with
      | lst ds =>
        obtain ⟨_, ho, h1, xs, rfl, r⟩ := s.m a _ e
        exact .lst (SqL.of (by rw [borF_lst e]; exact h1)) (r.mono (bor_ff s))
      | _ => exact .ref a
  | _, _, .ty n => .ty n
  | _, _, .dic h hk r => .dic (bor_ff s _ _ h) hk (r.mono (bor_ff s))
  | _, _, .tup h r => by unfold viewD; exact .tup (ex_t (bor_ff s) h) (RepL.bor s r)
  | _, _, .lst h r => by unfold viewD; exact .lst (ex_l (bor_ff s) h) (RepL.bor s r)
theorem RepL.bor (s : Sat K F H M) : ∀ {vs : List V} {ds : List D}, RepL K F vs ds → RepL K (borF F H M) vs (viewDs M ds)
  | _, _, .nil => .nil
  | _, _, .cons h t => by unfold viewDs; exact .cons (Rep.bor s h) (RepL.bor s t)
end
theorem RepE.bor (s : Sat K F H M) {σ : L2.St} {ρ : Rho} (r : RepE K F σ ρ) : RepE K (borF F H M) σ (viewR M ρ) := by
  refine ⟨by unfold viewR; rw [List.length_map]; exact r.len, fun i d h => ?_⟩
  unfold viewR at h
  rw [List.getElem?_map] at h
  cases e : ρ[i]? with
  | none => rw [e] at h; cases h
  | some x =>
    rw [e] at h
    cases x with
    | none => cases h
    | some d' =>
      cases h
      obtain ⟨v, h1, h2⟩ := r.get i d' e
      exact ⟨v, h1, h2.bor s⟩
theorem tabM_inv {a : Addr} {mo : MO} (h : tabM M a = some mo) : M a = some .tbl ∧ mo = .tbl := by
  unfold tabM at h
  cases e : M a with
  | none => rw [e] at h; cases h
  | some u =>
    rw [e] at h
    cases u <;> first | (cases h; done) | (cases h; exact ⟨rfl, rfl⟩)
theorem tabM_none {a : Addr} (h : M a = none) : tabM M a = none := by unfold tabM; rw [h]
theorem bor_sat (s : Sat K F H M) : Sat K (borF F H M) H (tabM M) := ⟨bor_fh s, fun a mo h => by
  obtain ⟨h1, rfl⟩ := tabM_inv h
  obtain ⟨f, ho, e, r⟩ := s.m a _ h1
  exact ⟨by rw [borF_tbl h1]; exact f, ho, e, r⟩⟩
/-- what stood stands -/
theorem bor_back (s : Sat K F H M) {F2 : Hp} {M2 : Mo} {H2 : Hp} (st : Step K (borF F H M) (tabM M) H F2 M2 H2) (sub : Sub (tabM M) M2) : Step K F M H F M H2 where
  ff := Ex.refl _
  fh := (bor_ff s).trans (st.ff.trans st.fh)
  m := fun a mo h => by
    obtain ⟨f, ho, e, r⟩ := s.m a mo h
    refine ⟨f, ?_⟩
    by_cases ht : mo = .tbl
    · subst ht
      have h2 : M2 a = some .tbl := sub a _ (by unfold tabM; rw [h])
      obtain ⟨_, ho2, e2, r2⟩ := st.m a _ h2
      exact ⟨ho2, e2, r2⟩
    · have hn : tabM M a = none := by
        unfold tabM; rw [h]
        cases mo <;> first | rfl | exact absurd rfl ht
      exact ⟨ho, st.keep a ho e hn, r⟩
  keep := fun a o h n => st.keep a o h (tabM_none n)
  newF := fun _ _ _ f => f
  newM := fun _ _ n => n
  th := st.th
theorem Rep.flat {F' : Hp} : ∀ {v : V} {d : D}, Rep K F v d → flatD d = true → Rep K F' v d
  | _, _, .non, _ => .non
  | _, _, .bl b, _ => .bl b
  | _, _, .int i, _ => .int i
  | _, _, .str x, _ => .str x
  | _, _, .ref a, h => by cases h
  | _, _, .ty n, h => by cases h
  | _, _, .dic _ _ _, h => by cases h
  | _, _, .tup _ _, h => by cases h
  | _, _, .lst _ _, h => by cases h
theorem RepL.flat {F' : Hp} : ∀ {vs : List V} {ds : List D}, RepL K F vs ds → ds.all flatD = true → RepL K F' vs ds
  | _, _, .nil, _ => .nil
  | _, _, .cons h t, q => by
    rw [List.all_cons] at q
    obtain ⟨q1, q2⟩ := Bool.and_eq_true_iff.mp q
    exact .cons (Rep.flat h q1) (RepL.flat t q2)
end
theorem dt_bor {wt : WT} (ha : PT X a (tT X.K W wt)) : PT X a (tT X.K W fun ρ M Q _ => wt (viewR M ρ) (tabM M) (fun b M2 => Sub (tabM M) M2 ∧ Q b M) noX) := by
  refine PT.weak ha fun σ H Q h => ?_
  obtain ⟨F, M, ρ, Q', X', s, r, h, pv, px⟩ := h
  exact ⟨_, _, _, _, _, bor_sat s, r.bor s, h, fun b M2 ⟨sub, q⟩ F2 H2 st => pv b M q F H2 (bor_back s st sub), fun _ _ _ h => h.elim⟩
theorem de_bor {l : Bool} (ha : PE X a (tE X.K W wa)) : PE X a (tE X.K W fun ρ M Q _ => wa (viewR M ρ) (tabM M) (fun r M2 => Sub (tabM M) M2 ∧ if l = true then ∃ q ds, r = .ref q ∧ M2 q = some (.lst ds) ∧ ds.all flatD = true ∧ (M q = none → Q (.ref q) (updM M q (.lst ds))) else flatD r = true ∧ Q r M) noX) := by
  refine PE.weak ha fun σ H Q h => ?_
  obtain ⟨F, M, ρ, Q', X', s, r, h, pv, px⟩ := h
  refine ⟨_, _, _, _, _, bor_sat s, r.bor s, h, fun d M2 ⟨sub, q⟩ F2 H2 v st rv => ?_, fun _ _ _ h => h.elim⟩
  have back := bor_back s st sub
  cases l with
  | false =>
    obtain ⟨hf, q⟩ : flatD d = true ∧ Q' d M := by simpa using q
    exact pv d M q F H2 v back (rv.flat hf)
  | true =>
    obtain ⟨p, ds, rfl, e, hf, q⟩ : ∃ q ds, d = .ref q ∧ M2 q = some (.lst ds) ∧ ds.all flatD = true ∧ (M q = none → Q' (.ref q) (updM M q (.lst ds))) := by simpa using q
    cases rv
    obtain ⟨f2, ho, e2, xs, rfl, r2⟩ := st.m p _ e
    have hH : H p = none := by
      cases hh : H p with
      | none => rfl
      | some o =>
        have ht : tabM M p = none := by
          cases hc : tabM M p with
          | none => rfl
          | some mo =>
            obtain ⟨h1, rfl⟩ := tabM_inv hc
            rw [sub p _ hc] at e; cases e
        rw [st.newM p (by rw [hh]; simp) ht] at e
        cases e
    obtain ⟨hF, hM⟩ := s.none hH
    have rr : RepL X.K F xs ds := r2.flat hf
    refine pv _ _ (q hM) F H2 _ ⟨back.ff, back.fh, fun a mo h => ?_, fun a o h n => back.keep a o h n, back.newF, fun a h n => ?_, back.th⟩ (.ref p)
    · by_cases hne : a = p
      · subst hne
        rw [updM_same] at h; cases h
        exact ⟨hF, _, e2, xs, rfl, rr⟩
      · rw [updM_ne hne] at h
        exact back.m a mo h
    · have hne : a ≠ p := fun z => by rw [z] at h; exact h hH
      rw [updM_ne hne]; exact n
end
end Vp
namespace Vp
open PySem PySem.Spec PyProof.Rows L2

/-! ### zip over lists and tuples in any mix -/
def SqK (K : PySem.W.Frag) (k : Bool) (H : Hp) (a : Addr) (xs : List V) : Prop := if k = true then SqT K H a xs else SqL K H a xs
def ItAt (k : Bool) (h : Heap) (it l : Addr) (i : Nat) : Prop := if k = true then h.IsTupleIter it l i else h.IsListIter it l i
def ObAt (k : Bool) (h : Heap) (l : Addr) (items : Array Value) : Prop := if k = true then h.IsTuple l items else h.IsList l items
theorem ItAt.there {k : Bool} {h : Heap} {it l : Addr} {i : Nat} (x : ItAt k h it l i) : ∃ o, h.get? it = some o ∧ ∀ v, o.data ≠ .cell v := by
  cases k with
  | true => obtain ⟨o, e, _, d⟩ := x; exact ⟨o, e, fun v q => by rw [d] at q; cases q⟩
  | false => obtain ⟨o, e, _, d⟩ := x; exact ⟨o, e, fun v q => by rw [d] at q; cases q⟩
theorem ItAt.at {k : Bool} {h h' : Heap} {it l : Addr} {i : Nat} (x : ItAt k h it l i) (e : ∀ o, h.get? it = some o → h'.get? it = some o) : ItAt k h' it l i := by
  cases k with
  | true => exact Heap.IsTupleIter.at (show h.IsTupleIter it l i from x) e
  | false => exact Heap.IsListIter.at (show h.IsListIter it l i from x) e
theorem draws {prog : Program} {w : World} {A : Around} (hh : A.handled = none) (k : Bool) (it l : Addr) (hne : l ≠ it) (items : Array Value) :
    Draws prog w A it [it, l] items.size (fun i v => items[i]? = some v) (fun i h => ItAt k h it l i ∧ ObAt k h l items) := by
  cases k with
  | true => exact Draws.tuple hh it l hne items
  | false => exact Draws.list hh it l hne items
def itO (k : Bool) (l : Addr) : Obj := if k = true then { cls := .type "tuple_iterator", data := .fields #[.ref l, .int 0 0] } else { cls := .type "list_iterator", data := .fields #[.ref l, .int 0 0] }
theorem begins {k : Bool} {l : Addr} {items : Array Value} : Begins (.ref l) (itO k l) (fun h => ObAt k h l items) := by
  cases k with
  | true => exact begins_tuple l items
  | false => exact begins_list l items
theorem itO_at {k : Bool} {h : Heap} {it l : Addr} (e : h.get? it = some (itO k l)) : ItAt k h it l 0 := by
  cases k with
  | true => exact ⟨_, e, rfl, rfl⟩
  | false => exact ⟨_, e, rfl, rfl⟩
section
variable {X : Cx} {pins : List (Addr × Obj)} {σ : L2.St} {H : Hp} {s : Shared}
theorem sqk (I : Inv X pins σ H s) {k : Bool} {a : Addr} {xs : List V} (h : SqK X.K k H a xs) : ∃ its : List Value, Vals xs its ∧ ObAt k s.heap a its.toArray ∧ a < s.heap.objs.size := by
  cases k with
  | true =>
    obtain ⟨its, r, p, _⟩ := I.tuple (show SqT X.K H a xs from h)
    obtain ⟨o, ho, _⟩ := id p
    exact ⟨its, r, p, Heap.lt_size ho⟩
  | false =>
    obtain ⟨its, r, p, _⟩ := I.list (show SqL X.K H a xs from h)
    exact ⟨its, r, p.isList, p.lt⟩
theorem sqk_inj (I : Inv X pins σ H s) {k : Bool} {a : Addr} {xs ys : List V} (h : SqK X.K k H a xs) (h' : SqK X.K k H a ys) : xs = ys := by
  cases k with
  | true => exact I.tuple_inj h h'
  | false => exact I.list_inj h h'
end
def ItzG (K : PySem.W.Frag) (ka kb : Bool) (a b : Addr) : It :=
  ⟨fun i H => ∃ (xs ys : List V) (x y : V), SqK K ka H a xs ∧ SqK K kb H b ys ∧ xs[i]? = some x ∧ ys[i]? = some y,
    fun i H v H' => ∃ T x y, v = .ref T ∧ H T = none ∧ H' = upd H T (.tup [x, y]) ∧ (∀ xs, SqK K ka H a xs → xs[i]? = some x) ∧ ∀ ys, SqK K kb H b ys → ys[i]? = some y,
    fun i H => ∃ xs ys : List V, SqK K ka H a xs ∧ SqK K kb H b ys ∧ i ≤ xs.length ∧ i ≤ ys.length ∧ (i = xs.length ∨ i = ys.length)⟩
theorem in1_handled {A : Around} (h : A.handled = none) : A.in1.handled = none := h
theorem it_ne {X : Cx} {pins : List (Addr × Obj)} {σ : L2.St} {H : Hp} {s : Shared} (I : Inv X pins σ H s) {k : Bool} {a it : Addr} {xs : List V} {i : Nat} (hq : SqK X.K k H a xs) (h1 : ItAt k s.heap it a i) (n : H it = none) : a ≠ it := fun z' => by
  cases k with
  | true =>
    obtain ⟨o2, e3, c3, _⟩ := (show s.heap.IsTupleIter it a i from h1)
    rcases (show SqT X.K H a xs from hq) with (q' | ⟨_, q'⟩) | ⟨o', _, _, q', c1, _⟩
    · rw [z', n] at q'; cases q'
    · rw [z', n] at q'; cases q'
    · have e2 := I.kIn a o' q'
      rw [z', e3] at e2; cases e2
      rw [c1] at c3
      exact absurd (Value.type.inj c3) (by decide)
  | false =>
    obtain ⟨o2, e3, c3, _⟩ := (show s.heap.IsListIter it a i from h1)
    rcases (show SqL X.K H a xs from hq) with (q' | ⟨_, q'⟩) | ⟨o', _, _, q', c1, _⟩
    · rw [z', n] at q'; cases q'
    · rw [z', n] at q'; cases q'
    · have e2 := I.kIn a o' q'
      rw [z', e3] at e2; cases e2
      rw [c1] at c3
      exact absurd (Value.type.inj c3) (by decide)
theorem turn_zipG {P : Program} {w : World} {K : PySem.W.Frag} {elts : List Expr} {kk : Nat} {tpos : Pos} {ka kb : Bool} {a b z TI TO i1 i2 : Addr} (D : ZipSep2 z TI TO i1 i2 [i1, a] [i2, b]) :
    Turn P w K (.Tuple elts kk tpos) (ItzG K ka kb a b) [z, TI, TO, i1, i2] z (fun i h => IsZip h z TI TO .none ∧ IsTupOf2 h TI (.ref i1) (.ref i2) ∧ (∃ x y, IsTupOf2 h TO x y) ∧ ItAt ka h i1 a i ∧ ItAt kb h i2 b i) where
  mem := by simp
  obj := fun i h st c hc => by
    obtain ⟨hz, hTI, ⟨x, y, hTO⟩, h1, h2⟩ := st
    have e' : c = z ∨ c = TI ∨ c = TO ∨ c = i1 ∨ c = i2 := by simpa using hc
    rcases e' with q | q | q | q | q
    · rw [q]; exact ⟨_, hz, fun v q => nomatch q⟩
    · rw [q]; exact ⟨_, hTI, fun v q => nomatch q⟩
    · rw [q]; exact ⟨_, hTO, fun v q => nomatch q⟩
    · rw [q]; exact h1.there
    · rw [q]; exact h2.there
  keep := fun i h h' st k => by
    obtain ⟨hz, hTI, ⟨x, y, hTO⟩, h1, h2⟩ := st
    exact ⟨k z (by simp) _ hz, k TI (by simp) _ hTI, ⟨x, y, k TO (by simp) _ hTO⟩, h1.at fun o q => k i1 (by simp) o q, h2.at fun o q => k i2 (by simp) o q⟩
  item := by
    intro X hP hw hK hc i pins s σ H E I hf st hg
    subst hP hw hK
    obtain ⟨hz, hTI, ⟨x0, y0, hTO⟩, h1, h2⟩ := st
    obtain ⟨xs, ys, x, y, hqx, hqy, hx, hy⟩ := hg
    obtain ⟨its, rv, p, _⟩ := sqk I hqx
    obtain ⟨its2, rv2, p2, _⟩ := sqk I hqy
    obtain ⟨u, hu, ru⟩ := rv.get hx
    obtain ⟨u2, hu2, ru2⟩ := rv2.get hy
    have hh := in1_handled (I.ok.hd hc)
    have ne1 : a ≠ i1 := it_ne I hqx h1 (hf i1 (by simp)).1
    have ne2 : b ≠ i2 := it_ne I hqy h2 (hf i2 (by simp)).1
    have hlt : i < its.toArray.size := by
      have := (List.getElem?_eq_some_iff.mp hu).1
      simpa using this
    have hlt2 : i < its2.toArray.size := by
      have := (List.getElem?_eq_some_iff.mp hu2).1
      simpa using this
    have hzl : z < s.heap.objs.size := Heap.lt_size hz
    refine wpAny_pyNext_zipD2_item D (draws hh ka i1 a ne1 its.toArray) (draws hh kb i2 b ne2 its2.toArray) hz hTI hTO ⟨h1, p⟩ ⟨h2, p2⟩ hlt hlt2 fun x1 x2 h' tk e1 e2 z' TO' h1' h2' hT hsz hk => ?_
    have e1' : x1 = u := by
      have : its[i]? = some x1 := by simpa using e1
      rw [hu] at this; exact (Option.some.inj this).symm
    have e2' : x2 = u2 := by
      have : its2[i]? = some x2 := by simpa using e2
      rw [hu2] at this; exact (Option.some.inj this).symm
    subst e1' e2'
    refine ⟨_, rfl, wpAny_letOwnedTupleGo_zip (s := { s with heap := h', toks := tk }) z' fun h'' z'' sb => ?_⟩
    have hT2 : h''.get? s.heap.objs.size = some { cls := .type "tuple", data := .seq #[x1, x2] } := (sb.2 _ (Nat.ne_of_gt hzl)).trans hT
    have new : ObjOk X.prog X.w (upd H s.heap.objs.size (.tup [x, y])) h'' s.heap.objs.size (.tup [x, y]) :=
      ⟨by show 2 ≤ sizeLine; decide, [x1, x2], .cons ru (.cons ru2 .nil), ⟨_, hT2, rfl, _, rfl⟩⟩
    have I1 : Inv X pins σ (upd H s.heap.objs.size (.tup [x, y])) { s with heap := h'', toks := tk } :=
      I.turnedNew (t' := tk) (ch := [z, TI, TO, i1, i2]) (fun c o hb q => (sb.2 c (fun q' => hb (by simp [q']))).trans (hk c o (fun q' => hb (by simp [q'])) (fun q' => hb (by simp [q'])) (fun q' => hb (by simp [q'])) (fun q' => hb (by simp [q'])) q)) hf (Nat.le_refl _) new
    refine ⟨.ref s.heap.objs.size, _, I1, rfl, ⟨_, x, y, rfl, I.hok.fresh (Nat.le_refl _), rfl, fun l hl => by rw [sqk_inj I hl hqx]; exact hx, fun l hl => by rw [sqk_inj I hl hqy]; exact hy⟩, ⟨z'', ?_, ⟨x1, x2, ?_⟩, ?_, ?_⟩, fun c hcm => ?_⟩
    · exact (sb.2 _ D.TIz).trans (hk _ _ D.TIz D.TITO D.TIi1 D.TIi2 hTI)
    · exact (sb.2 _ D.TOz).trans TO'
    · exact h1'.1.at fun o q => (sb.2 _ D.zi1.symm).trans q
    · exact h2'.1.at fun o q => (sb.2 _ D.zi2.symm).trans q
    · have hlt : c < s.heap.objs.size := by
        have e' : c = z ∨ c = TI ∨ c = TO ∨ c = i1 ∨ c = i2 := by simpa using hcm
        rcases e' with q | q | q | q | q
        · rw [q]; exact hzl
        · rw [q]; exact Heap.lt_size hTI
        · rw [q]; exact Heap.lt_size hTO
        · rw [q]; obtain ⟨_, e1, _⟩ := h1.there; exact Heap.lt_size e1
        · rw [q]; obtain ⟨_, e2, _⟩ := h2.there; exact Heap.lt_size e2
      rw [upd_ne (Nat.ne_of_lt hlt)]
      exact (hf c hcm).1
  done := by
    intro X hP hw hK hc i pins s σ H E I hf st hg
    subst hP hw hK
    obtain ⟨hz, hTI, ⟨x0, y0, hTO⟩, h1, h2⟩ := st
    obtain ⟨xs, ys, hqx, hqy, l1', l2', hend⟩ := hg
    obtain ⟨its, rv, p, _⟩ := sqk I hqx
    obtain ⟨its2, rv2, p2, _⟩ := sqk I hqy
    have l1 := rv.length
    have l2 := rv2.length
    have hh := in1_handled (I.ok.hd hc)
    have ne1 : a ≠ i1 := it_ne I hqx h1 (hf i1 (by simp)).1
    have ne2 : b ≠ i2 := it_ne I hqy h2 (hf i2 (by simp)).1
    exact wpAny_pyNext_zipD2_end D (draws hh ka i1 a ne1 its.toArray) (draws hh kb i2 b ne2 its2.toArray) hz hTI hTO ⟨h1, p⟩ ⟨h2, p2⟩ (by simp; omega) (by simp; omega) (by simp; omega) fun h' tk hk => ⟨rfl, I.turnedL (t' := tk) (ch := [z, TI, TO, i1, i2]) (fun c o hb q =>
      hk c o (fun q' => hb (by simp [q'])) (fun q' => hb (by simp [q'])) (fun q' => hb (by simp [q'])) (fun q' => hb (by simp [q'])) q) hf⟩
  self := fun A i s Q E st h => wpAny_pyIter_zip st.1 h

def iZipG (K : PySem.W.Frag) (ta : TA) : TI := fun σ H R => ta σ H fun vs H1 => ∃ ka kb a b xs ys, vs = [.ref a, .ref b] ∧ SqK K ka H1 a xs ∧ SqK K kb H1 b ys ∧ R (ItzG K ka kb a b) H1
theorem pi_zipG {X : Cx} {e e2 : Expr} {ta : TA} {p pos tpos : Pos} {elts : List Expr} {kk : Nat} (hg : Gl X "zip") (hm : X.mg "zip" = none) (ha : PA X [e, e2] ta)
    (hs : starEach [e, e2] X.env = (false, eval e X.env) :: starEach [e2] X.env) (hpl : (backTo pos (starEach [e2] X.env)).any (·.1) = false) :
    PI X (.Tuple elts kk tpos) (.Call (.Name "zip" p) [e, e2] [] pos) (iZipG X.K ta) := by
  refine ⟨fun pins s σ H R I h => ?_⟩
  refine Call_ (ld_blt I hg hm PyProof.Rows.boot_zip (PyProof.Rows.callWith_type1 (thn (ha.run pos pins s σ H _ I h) fun us s1 ⟨vs, H1, I1, r1, q1⟩ => ?_) hs hpl))
  obtain ⟨ka, kb, a, b, xs, ys, ex, hqx, hqy, q1⟩ := q1
  subst ex
  cases r1 with
  | cons r rr =>
    cases rr with
    | cons r' rr =>
      cases rr
      cases r
      cases r'
      have fresh5 : ∀ c, c ∈ [s1.heap.objs.size + 4, s1.heap.objs.size + 2, s1.heap.objs.size + 3, s1.heap.objs.size, s1.heap.objs.size + 1] → FpOk X pins H1 c := fun c hcm => by
        have e' : c = s1.heap.objs.size + 4 ∨ c = s1.heap.objs.size + 2 ∨ c = s1.heap.objs.size + 3 ∨ c = s1.heap.objs.size ∨ c = s1.heap.objs.size + 1 := by simpa using hcm
        have hle : s1.heap.objs.size ≤ c := by
          rcases e' with z | z | z | z | z
          · rw [z]; exact Nat.le_add_right _ _
          · rw [z]; exact Nat.le_add_right _ _
          · rw [z]; exact Nat.le_add_right _ _
          · rw [z]; exact Nat.le_refl _
          · rw [z]; exact Nat.le_add_right _ _
        exact I1.fpOk hle (I1.hok.fresh hle)
      obtain ⟨its, rv, p1, la⟩ := sqk I1 hqx
      obtain ⟨its2, rv2, p2, lb⟩ := sqk I1 hqy
      refine zip_begins2 (begins (k := ka)) (begins (k := kb)) p1 p2 fun h' hz hTI hTO h1 h2 hsz hk => wpAny_pyIter_zip hz ?_
      have I2 : Inv X pins σ H1 { s1 with heap := h' } := I1.kept (t' := s1.toks) hk
      refine ⟨s1.heap.objs.size + 4, [s1.heap.objs.size + 4, s1.heap.objs.size + 2, s1.heap.objs.size + 3, s1.heap.objs.size, s1.heap.objs.size + 1], _, _, H1, rfl, I2, turn_zipG (ka := ka) (kb := kb) (zip_sep2 (N := s1.heap.objs.size) (fp1 := [a]) (fp2 := [b]) ?_ ?_), ⟨hz, hTI, ⟨_, _, hTO⟩, itO_at h1, itO_at h2⟩, fresh5, q1⟩
      · intro c hc; rw [List.mem_singleton.mp hc]; exact la
      · intro c hc; rw [List.mem_singleton.mp hc]; exact lb
end Vp
namespace Vp
open PySem PySem.Spec PyProof.Rows L2

/-! ### enumerate over a list or a tuple -/
set_option maxHeartbeats 4000000 in
theorem enum_new1 {v : Value} {o : Obj} {C : Heap → Prop} (B : Begins v o C) :
    Meets (Builtin.«enumerate.__new__» ⟨[.type "enumerate", v], []⟩) (fun _ R s => C s.heap ∧
      R (.ok (.ret (.ref (s.heap.push o).objs.size))) { s with heap := (s.heap.push o).push { cls := .type "enumerate", data := .fields #[.none, .bool false, .ref s.heap.objs.size, rawInt 0, .none, .none] } }) :=
  .of_wp fun prog w A R s hyp => by
    obtain ⟨hp, gens, drawn, toks, os⟩ := s
    obtain ⟨h1, h⟩ := hyp
    have known := sub_enumerate
    have step : ∀ {A' : Around} {E : Value → Shared → Prop} {Q : Value → Shared → Prop}, Q (.ref hp.objs.size) ⟨hp.push o, gens, drawn, toks, os⟩ → wpAny (model prog w) A' (pyIter v) Q E ⟨hp, gens, drawn, toks, os⟩ :=
      fun q => B.iter prog w _ _ ⟨hp, gens, drawn, toks, os⟩ _ h1 q
    wp_walk using step
    refine wpAny_stack_any fun stk => wpAny_pure ?_
    split
    · rename_i c _ _ _ _ _
      cases (c == Value.type "enumerate") <;> (wp_walk using step; exact ⟨_, rfl, h⟩)
    · wp_walk using step
      exact ⟨_, rfl, h⟩
section
variable {prog : Program} {w : World} {A : Around} {E : Value → Shared → Prop} {s : Shared}
theorem enum_call1 {v : Value} {o : Obj} {C : Heap → Prop} {Q : Value → Shared → Prop} (B : Begins v o C) (h1 : C s.heap)
    (h : ∀ h', IsEnum h' (s.heap.objs.size + 1) s.heap.objs.size 0 .none → h'.get? s.heap.objs.size = some o → h'.objs.size = s.heap.objs.size + 2 →
      (∀ b o, s.heap.get? b = some o → h'.get? b = some o) → Q (.ref (s.heap.objs.size + 1)) { s with heap := h' }) :
    wpAny (model prog w) A (call (.type "enumerate") [v]) Q E s := by
  refine callType_new PySem.F.called_enumerate (by decide) (PySem.F.typeCall_enumerate_1 _) (PySem.F.newCall_enumerate_1 _) (fun ob => PySem.F.args_object_init_2 ob _) PySem.F.entry_enumerate_new (enum_new1 B) ⟨h1, ?_⟩
  have size1 : (s.heap.push o).objs.size = s.heap.objs.size + 1 := Heap.size_push ..
  show _ ∧ _
  rw [size1]
  have made : IsEnum ((s.heap.push o).push { cls := .type "enumerate", data := .fields #[.none, .bool false, .ref s.heap.objs.size, rawInt 0, .none, .none] }) (s.heap.objs.size + 1) s.heap.objs.size 0 .none := by
    have z := Heap.get?_push_size (s.heap.push o) (o := { cls := .type "enumerate", data := .fields #[.none, .bool false, .ref s.heap.objs.size, rawInt 0, .none, .none] }) rfl
    rw [size1] at z
    exact z
  exact ⟨⟨_, made, rfl⟩, h _ made (Heap.get?_push_of_some _ (Heap.get?_push_size _ B.free)) (by rw [Heap.size_push, size1]) fun b u x => Heap.get?_push_of_some _ (Heap.get?_push_of_some _ x)⟩
end
def IteG (K : PySem.W.Frag) (k : Bool) (a : Addr) : It :=
  ⟨fun i H => ∃ (xs : List V) (x : V), SqK K k H a xs ∧ xs[i]? = some x, fun i H v H' => ∃ T x, v = .ref T ∧ H T = none ∧ H' = upd H T (.tup [.int (i : Nat), x]) ∧ ∀ xs, SqK K k H a xs → xs[i]? = some x, fun i H => ∃ xs : List V, SqK K k H a xs ∧ i = xs.length⟩
theorem en_ne {X : Cx} {pins : List (Addr × Obj)} {σ : L2.St} {H : Hp} {s : Shared} (I : Inv X pins σ H s) {k : Bool} {a e it : Addr} {xs : List V} {c : Int} {old : Value} (hq : SqK X.K k H a xs) (he : IsEnum s.heap e it c old) (n : H e = none) : a ≠ e := fun z => by
  cases k with
  | true =>
    rcases (show SqT X.K H a xs from hq) with (q' | ⟨_, q'⟩) | ⟨o', _, _, q', c1, _⟩
    · rw [z, n] at q'; cases q'
    · rw [z, n] at q'; cases q'
    · have e2 := I.kIn a o' q'
      rw [z] at e2
      have e3 := he.symm.trans e2
      cases e3
      exact absurd (Value.type.inj c1) (by decide)
  | false =>
    rcases (show SqL X.K H a xs from hq) with (q' | ⟨_, q'⟩) | ⟨o', _, _, q', c1, _⟩
    · rw [z, n] at q'; cases q'
    · rw [z, n] at q'; cases q'
    · have e2 := I.kIn a o' q'
      rw [z] at e2
      have e3 := he.symm.trans e2
      cases e3
      exact absurd (Value.type.inj c1) (by decide)
theorem turn_enumG {P : Program} {w : World} {K : PySem.W.Frag} {elts : List Expr} {kk : Nat} {tpos : Pos} {k : Bool} (a e it : Addr) :
    Turn P w K (.Tuple elts kk tpos) (IteG K k a) [e, it] e (fun i h => (∃ old, IsEnum h e it ((i : Nat) : Int) old) ∧ ItAt k h it a i ∧ e ≠ it) where
  mem := by simp
  obj := fun i h st c hc => by
    obtain ⟨⟨old, he⟩, hit, _⟩ := st
    rcases (show c = e ∨ c = it by simpa using hc) with q | q
    · rw [q]; exact ⟨_, he, fun v q => nomatch q⟩
    · rw [q]; exact hit.there
  keep := fun i h h' st kp => by
    obtain ⟨⟨old, he⟩, hit, hne⟩ := st
    exact ⟨⟨old, kp e (by simp) _ he⟩, hit.at fun o q => kp it (by simp) o q, hne⟩
  item := by
    intro X hP hw hK hc i pins s σ H E I hf st hg
    subst hP hw hK
    obtain ⟨⟨old, he⟩, hit, hne⟩ := st
    obtain ⟨xs, x, hq, hx⟩ := hg
    obtain ⟨its, rv, p, _⟩ := sqk I hq
    obtain ⟨u, hu, ru⟩ := rv.get hx
    have hel : e < s.heap.objs.size := Heap.lt_size he
    have hh := in1_handled (I.ok.hd hc)
    have ne1 : a ≠ it := it_ne I hq hit (hf it (by simp)).1
    have ne2 : a ≠ e := en_ne I hq he (hf e (by simp)).1
    have hlt : i < its.toArray.size := by
      have := (List.getElem?_eq_some_iff.mp hu).1
      simpa using this
    have out : e ∉ [it, a] := by simp [hne, ne2.symm]
    refine wpAny_pyNext_enum_itemC (draws hh k it a ne1 its.toArray) he ⟨hit, p⟩ hlt hne out fun x1 h' tk e1 ho hit' hT hsz hk => ?_
    have e1' : x1 = u := by
      have : its[i]? = some x1 := by simpa using e1
      rw [hu] at this; exact (Option.some.inj this).symm
    subst e1'
    refine ⟨_, rfl, wpAny_letOwnedTupleGo_enum (s := { s with heap := h', toks := tk + 1 }) ho fun h2 he' sb => ?_⟩
    have there2 : h2.get? s.heap.objs.size = some { cls := .type "tuple", data := .seq #[.int i tk, x1] } := (sb.2 _ (Nat.ne_of_gt hel)).trans hT
    have ok2 : ObjOk X.prog X.w (upd H s.heap.objs.size (.tup [.int (i : Nat), x])) h2 s.heap.objs.size (.tup [.int (i : Nat), x]) :=
      ⟨by show 2 ≤ sizeLine; decide, [.int i tk, x1], .cons ⟨_, rfl⟩ (.cons ru .nil), ⟨_, there2, rfl, _, rfl⟩⟩
    have I1 : Inv X pins σ (upd H s.heap.objs.size (.tup [.int (i : Nat), x])) { s with heap := h2, toks := tk + 1 } :=
      I.turnedNew (t' := tk + 1) (ch := [e, it]) (fun c ob hb q => (sb.2 c (fun z => hb (by simp [z]))).trans (hk c ob (fun z => hb (by simp [z])) (fun z => hb (by simp [z])) q)) hf (Nat.le_refl _) ok2
    refine ⟨.ref s.heap.objs.size, _, I1, rfl, ⟨_, x, rfl, I.hok.fresh (Nat.le_refl _), rfl, fun ys hy => by rw [sqk_inj I hy hq]; exact hx⟩, ⟨⟨x1, ?_⟩, hit'.1.at fun o q => (sb.2 it (Ne.symm hne)).trans q, hne⟩, fun c hcm => ?_⟩
    · rw [show ((i + 1 : Nat) : Int) = (i : Int) + 1 by omega]; exact he'
    · have hlt : c < s.heap.objs.size := by
        rcases (show c = e ∨ c = it by simpa using hcm) with q | q
        · rw [q]; exact hel
        · rw [q]; obtain ⟨_, e2, _⟩ := hit.there; exact Heap.lt_size e2
      rw [upd_ne (Nat.ne_of_lt hlt)]
      exact (hf c hcm).1
  done := by
    intro X hP hw hK hc i pins s σ H E I hf st hg
    subst hP hw hK
    obtain ⟨⟨old, he⟩, hit, hne⟩ := st
    obtain ⟨xs, hq, hx⟩ := hg
    obtain ⟨its, rv, p, _⟩ := sqk I hq
    have hl := rv.length
    have hh := in1_handled (I.ok.hd hc)
    have ne1 : a ≠ it := it_ne I hq hit (hf it (by simp)).1
    have hi : i = its.toArray.size := by simp; omega
    subst hi
    obtain ⟨f0, f1, f2, f3, f4, f5⟩ := hf it (by simp)
    exact wpAny_pyNext_enum_endD (draws hh k it a ne1 its.toArray) he ⟨hit, p⟩ fun h' eb => ⟨rfl, I.turned (t' := s.toks) (fun c o hb q => eb c o hb q) f0 f1 f3 f4 f5⟩
  self := fun A i s Q E st h => let ⟨⟨_, he⟩, _⟩ := st; wpAny_pyIter_enum he h
def iEnumG (K : PySem.W.Frag) (ta : TA) : TI := fun σ H R => ta σ H fun vs H1 => ∃ k a xs, vs = [.ref a] ∧ SqK K k H1 a xs ∧ R (IteG K k a) H1
theorem pi_enumG {X : Cx} {e : Expr} {ta : TA} {p pos tpos : Pos} {elts : List Expr} {kk : Nat} (hg : Gl X "enumerate") (hm : X.mg "enumerate" = none) (ha : PA X [e] ta) (hs : starEach [e] X.env = [(false, eval e X.env)]) :
    PI X (.Tuple elts kk tpos) (.Call (.Name "enumerate" p) [e] [] pos) (iEnumG X.K ta) := by
  refine ⟨fun pins s σ H R I h => ?_⟩
  refine Call_ (ld_blt I hg hm boot_enumerate (PyProof.Rows.callWith_type1 (thn (ha.run pos pins s σ H _ I h) fun us s1 got => ?_) hs rfl))
  obtain ⟨vs, H1, I1, r1, k, a, xs, ex, hq, q⟩ := got
  subst ex
  cases r1 with
  | cons r rr =>
    cases rr
    cases r
    obtain ⟨its, rv, p1, la⟩ := sqk I1 hq
    refine enum_call1 (begins (k := k)) p1 fun h' he hit hsz hk => wpAny_pyIter_enum he ?_
    have I2 : Inv X pins σ H1 { s1 with heap := h' } := I1.kept (t' := s1.toks) hk
    refine ⟨s1.heap.objs.size + 1, [s1.heap.objs.size + 1, s1.heap.objs.size], _, _, H1, rfl, I2, turn_enumG (k := k) a (s1.heap.objs.size + 1) s1.heap.objs.size, ⟨⟨.none, he⟩, itO_at hit, Nat.succ_ne_self _⟩, fun c hcm => ?_, q⟩
    have hle : s1.heap.objs.size ≤ c := by
      rcases (show c = s1.heap.objs.size + 1 ∨ c = s1.heap.objs.size by simpa using hcm) with z | z
      · rw [z]; exact Nat.le_add_right _ _
      · rw [z]; exact Nat.le_refl _
    exact I1.fpOk hle (I1.hok.fresh hle)
end Vp
namespace Vp
open PySem PySem.Spec PyProof.Rows L2

/-! ### what is walked -/
structure Walks (K : PySem.W.Frag) (F0 : Hp) (J : It) (ds : List D) : Prop where
  go : ∀ i H, Ex F0 H → i < ds.length → J.go i H
  stop : ∀ H, Ex F0 H → J.stop ds.length H
  yld : ∀ (i : Nat) (d : D) (H : Hp) (x : V) (H' F : Hp) (M : Mo), Ex F0 F → Sat K F H M → ds[i]? = some d → J.yld i H x H' → ∃ F', Step K F M H F' M H' ∧ Rep K F' x d
def tI (K : PySem.W.Frag) (W : WX) (w : WL) : TI := fun σ H R => ∃ F M ρ Q' X', Sat K F H M ∧ RepE K F σ ρ ∧ w ρ M Q' X' ∧ (∀ ds M', Q' ds M' → ∀ F' H' J, Step K F M H F' M' H' → Walks K F' J ds → R J H') ∧ PX K F M H W σ X'
theorem PI.weak {X : Cx} {tg e : Expr} {t t' : TI} (h : PI X tg e t) (i : ∀ σ H R, t' σ H R → t σ H R) : PI X tg e t' := ⟨fun pins s σ H Q I q => h.run pins s σ H Q I (i σ H Q q)⟩
section
variable {K : PySem.W.Frag}
theorem walks_list {F : Hp} {a : Addr} {xs : List V} {ds : List D} (h : SqL K F a xs) (r : RepL K F xs ds) : Walks K F (Itl K a) ds where
  go := fun i H e hi => by
    have hi' : i < xs.length := by rw [r.length]; exact hi
    exact ⟨xs, xs[i], ex_l e h, List.getElem?_eq_getElem hi'⟩
  stop := fun H e => ⟨xs, ex_l e h, Nat.le_of_eq r.length⟩
  yld := fun i d H x H' F' M e s hd y => by
    obtain ⟨rfl, y⟩ := y
    obtain ⟨v, hv, rv⟩ := r.get hd
    have hx := y xs (ex_l (e.trans s.ex) h)
    rw [hv] at hx; cases hx
    exact ⟨F', Step.refl s, rv.mono e⟩
theorem walks_tup {F : Hp} {a : Addr} {xs : List V} {ds : List D} (h : SqT K F a xs) (r : RepL K F xs ds) : Walks K F (Itt K a) ds where
  go := fun i H e hi => by
    have hi' : i < xs.length := by rw [r.length]; exact hi
    exact ⟨xs, xs[i], ex_t e h, List.getElem?_eq_getElem hi'⟩
  stop := fun H e => ⟨xs, ex_t e h, Nat.le_of_eq r.length⟩
  yld := fun i d H x H' F' M e s hd y => by
    obtain ⟨rfl, y⟩ := y
    obtain ⟨v, hv, rv⟩ := r.get hd
    have hx := y xs (ex_t (e.trans s.ex) h)
    rw [hv] at hx; cases hx
    exact ⟨F', Step.refl s, rv.mono e⟩
theorem walks_range {F : Hp} {lo : Int} {n : Nat} : Walks K F (Itr lo n) ((List.range n).map fun (i : Nat) => .int (lo + (i : Int))) where
  go := fun i H e hi => by
    have hi' : i < n := by simpa using hi
    exact hi'
  stop := fun H e => by show n ≤ _; simp
  yld := fun i d H x H' F' M e s hd y => by
    obtain ⟨rfl, rfl⟩ := y
    have hi : i < n := by
      have := (List.getElem?_eq_some_iff.mp hd).1
      simpa using this
    have : d = .int (lo + (i : Int)) := by
      rw [List.getElem?_map, List.getElem?_range hi] at hd
      exact (Option.some.inj hd).symm
    subst this
    exact ⟨F', Step.refl s, .int _⟩
theorem sqk_ex {k : Bool} {F H : Hp} {a : Addr} {xs : List V} (e : Ex F H) (h : SqK K k F a xs) : SqK K k H a xs := by
  cases k with
  | true => exact ex_t e h
  | false => exact ex_l e h
theorem zip_get {xs ys : List D} {i : Nat} {d : D} (h : (List.zipWith prD xs ys)[i]? = some d) : ∃ x y, xs[i]? = some x ∧ ys[i]? = some y ∧ d = prD x y := by
  rw [List.getElem?_zipWith] at h
  cases h1 : xs[i]? with
  | none => rw [h1] at h; cases h
  | some x =>
    cases h2 : ys[i]? with
    | none => rw [h1, h2] at h; cases h
    | some y => rw [h1, h2] at h; exact ⟨x, y, rfl, rfl, (Option.some.inj h).symm⟩
theorem walks_zip {F : Hp} {ka kb : Bool} {a b : Addr} {us vs : List V} {xs ys : List D} (h1 : SqK K ka F a us) (r1 : RepL K F us xs) (h2 : SqK K kb F b vs) (r2 : RepL K F vs ys) : Walks K F (ItzG K ka kb a b) (List.zipWith prD xs ys) where
  go := fun i H e hi => by
    rw [List.length_zipWith] at hi
    have i1 : i < us.length := by rw [r1.length]; omega
    have i2 : i < vs.length := by rw [r2.length]; omega
    exact ⟨us, vs, us[i], vs[i], sqk_ex e h1, sqk_ex e h2, List.getElem?_eq_getElem i1, List.getElem?_eq_getElem i2⟩
  stop := fun H e => by
    have l1 := r1.length
    have l2 := r2.length
    refine ⟨us, vs, sqk_ex e h1, sqk_ex e h2, ?_, ?_, ?_⟩ <;> rw [List.length_zipWith] <;> omega
  yld := fun i d H x H' F' M e s hd y => by
    obtain ⟨T, u, v, rfl, hT, rfl, f1, f2⟩ := y
    obtain ⟨x, y, hx, hy, rfl⟩ := zip_get hd
    obtain ⟨u', hu, ru⟩ := r1.get hx
    obtain ⟨v', hv, rv⟩ := r2.get hy
    have q1 := f1 us (sqk_ex (e.trans s.ex) h1)
    have q2 := f2 vs (sqk_ex (e.trans s.ex) h2)
    rw [hu] at q1; cases q1
    rw [hv] at q2; cases q2
    exact ⟨_, s.newF hT _, new_tup s hT (.cons (ru.mono e) (.cons (rv.mono e) .nil))⟩
theorem walks_enum {F : Hp} {k : Bool} {a : Addr} {us : List V} {xs : List D} (h : SqK K k F a us) (r : RepL K F us xs) : Walks K F (IteG K k a) (xs.zipIdx.map fun p => prD (.int (p.2 : Nat)) p.1) where
  go := fun i H e hi => by
    have hi' : i < us.length := by rw [r.length]; simpa using hi
    exact ⟨us, us[i], sqk_ex e h, List.getElem?_eq_getElem hi'⟩
  stop := fun H e => ⟨us, sqk_ex e h, by rw [r.length]; simp⟩
  yld := fun i d H x H' F' M e s hd y => by
    obtain ⟨T, u, rfl, hT, rfl, f1⟩ := y
    rw [List.getElem?_map, List.getElem?_zipIdx] at hd
    cases hx : xs[i]? with
    | none => rw [hx] at hd; cases hd
    | some x =>
      rw [hx] at hd
      obtain ⟨u', hu, ru⟩ := r.get hx
      have q1 := f1 us (sqk_ex (e.trans s.ex) h)
      rw [hu] at q1; cases q1
      have : d = prD (.int (i : Nat)) x := by
        simp at hd
        exact hd.symm
      subst this
      exact ⟨_, s.newF hT _, new_tup s hT (.cons (.int _) (.cons (ru.mono e) .nil))⟩
theorem seqF_rep {F : Hp} {v : V} {d : D} (r : Rep K F v d) {ds : List D} (h : seqF d = some ds) : ∃ a xs k, v = .ref a ∧ SqK K k F a xs ∧ RepL K F xs ds := by
  cases r with
  | @tup a xs es h1 r1 => cases h; exact ⟨a, xs, true, rfl, h1, r1⟩
  | @lst a xs es h1 r1 => cases h; exact ⟨a, xs, false, rfl, h1, r1⟩
  | _ => cases h
end
section
variable {X : Cx} {W : WX} {tg a b : Expr} {wa wb : VE} {p pos : Pos}
/-- a list or a tuple -/
def iSeq (K : PySem.W.Frag) (tl : TE) : TI := fun σ H R => tl σ H fun x H1 => ∃ a k xs, x = .ref a ∧ SqK K k H1 a xs ∧ R (if k = true then Itt K a else Itl K a) H1
theorem pi_seq {l : Expr} {tl : TE} (hl : PE X l tl) : PI X tg l (iSeq X.K tl) := by
  refine ⟨fun pins s σ H R I h => ?_⟩
  refine thn (hl.run pins s σ H _ I h) fun v s1 ⟨x, H1, I1, r1, q1⟩ => ?_
  obtain ⟨a, k, xs, e, hq, q⟩ := q1
  subst e
  cases r1
  cases k with
  | false =>
    obtain ⟨its, rv, p, hz⟩ := I1.list (show SqL X.K H1 a xs from hq)
    refine wpAny_pyIter_list p.isList ?_
    refine ⟨s1.heap.objs.size, [s1.heap.objs.size], _, _, H1, rfl, I1.kept (t' := s1.toks) fun b o e => Heap.get?_push_of_some _ e, turn_list a _, ⟨_, Heap.get?_push_size _ rfl, rfl, rfl⟩, fun b hb => ?_, q⟩
    have e : b = s1.heap.objs.size := by simpa using hb
    subst e
    exact I1.fpOk (Nat.le_refl _) (I1.hok.fresh (Nat.le_refl _))
  | true =>
    obtain ⟨its, rv, p, hz⟩ := I1.tuple (show SqT X.K H1 a xs from hq)
    refine wpAny_pyIter_tuple (show s1.heap.IsTuple a its.toArray from p) ?_
    refine ⟨s1.heap.objs.size, [s1.heap.objs.size], _, _, H1, rfl, I1.kept (t' := s1.toks) fun b o e => Heap.get?_push_of_some _ e, turn_tuple a _, ⟨_, Heap.get?_push_size _ rfl, rfl, rfl⟩, fun b hb => ?_, q⟩
    have e : b = s1.heap.objs.size := by simpa using hb
    subst e
    exact I1.fpOk (Nat.le_refl _) (I1.hok.fresh (Nat.le_refl _))
theorem di_seq (ha : PE X a (tE X.K W wa)) : PI X tg a (tI X.K W fun ρ M Q X' => wa ρ M (fun x M1 => ∃ ds, seqF x = some ds ∧ Q ds M1) X') := by
  refine PI.weak (pi_seq ha) fun σ H R h => ?_
  obtain ⟨F, M, ρ, Q', X', s, r, h, pr, px⟩ := h
  refine ⟨F, M, ρ, _, X', s, r, h, fun d1 M1 ⟨ds, e, q⟩ F1 H1 v1 st1 r1 => ?_, px⟩
  obtain ⟨c, xs, k, rfl, hs, rl⟩ := seqF_rep r1 e
  refine ⟨c, k, xs, rfl, sqk_ex st1.fh hs, ?_⟩
  cases k with
  | true => exact pr ds M1 q F1 H1 _ st1 (walks_tup hs rl)
  | false => exact pr ds M1 q F1 H1 _ st1 (walks_list hs rl)
theorem walks_str {K : PySem.W.Frag} {F : Hp} {z : Str} : Walks K F (Its z) (z.cps.toList.map fun c => .str ⟨#[c]⟩) where
  go := fun i H e hi => by
    have hi' : i < z.cps.size := by simpa using hi
    exact hi'
  stop := fun H e => by show z.cps.size ≤ _; simp
  yld := fun i d H x H' F' M e s hd y => by
    obtain ⟨rfl, c, hc, rfl⟩ := y
    have : d = .str ⟨#[c]⟩ := by
      rw [List.getElem?_map, Array.getElem?_toList, hc] at hd
      exact (Option.some.inj hd).symm
    subst this
    exact ⟨F', Step.refl s, .str _⟩
theorem di_chars (ha : PE X a (tE X.K W wa)) : PI X tg a (tI X.K W fun ρ M Q X' => wa ρ M (fun x M1 => ∃ z : Str, x = .str z ∧ Q (z.cps.toList.map fun c => .str ⟨#[c]⟩) M1) X') := by
  refine PI.weak (pi_str ha) fun σ H R h => ?_
  obtain ⟨F, M, ρ, Q', X', s, r, h, pr, px⟩ := h
  refine ⟨F, M, ρ, _, X', s, r, h, fun d1 M1 ⟨z, e, q⟩ F1 H1 v1 st1 r1 => ?_, px⟩
  subst e
  cases r1
  exact ⟨z, rfl, pr _ M1 q F1 H1 _ st1 walks_str⟩
theorem di_range1 (hg : Gl X "range") (hm : X.mg "range" = none) (hs : noStar a = true) (ha : PE X a (tE X.K W wa)) :
    PI X tg (.Call (.Name "range" p) [a] [] pos) (tI X.K W fun ρ M Q X' => wa ρ M (fun x M1 => ∃ n : Int, x = .int n ∧ -(2 ^ 62) ≤ n ∧ n < 2 ^ 62 ∧ Q ((List.range n.toNat).map fun (i : Nat) => .int (0 + (i : Int))) M1) X') := by
  refine PI.weak (pi_range1 hg hm (pa_cons ha pa_nil (star_cons hs)) (star_cons hs)) fun σ H R h => ?_
  obtain ⟨F, M, ρ, Q', X', s, r, h, pr, px⟩ := h
  refine ⟨F, M, ρ, _, X', s, r, h, fun d1 M1 ⟨n, e, h1, h2, q⟩ F1 H1 v1 st1 r1 => ?_, px⟩
  subst e
  cases r1
  exact ⟨n, rfl, h1, h2, pr _ M1 q F1 H1 _ st1 walks_range⟩
theorem PIH_weak {X : Cx} {tg it : Expr} {wi wi' : TI} (h : L2H.PIH X tg it wi) (i : ∀ σ H R, wi' σ H R → wi σ H R) : L2H.PIH X tg it wi' := ⟨fun pins s σ H R I q => h.run pins s σ H R I (i σ H R q)⟩
theorem di_range1H (hg : Gl X "range") (hm : X.mg "range" = none) (hs : noStar a = true) (ha : PE X a (tE X.K W wa)) :
    L2H.PIH X tg (.Call (.Name "range" p) [a] [] pos) (tI X.K W fun ρ M Q X' => wa ρ M (fun x M1 => ∃ n : Int, x = .int n ∧ -(2 ^ 62) ≤ n ∧ n < 2 ^ 62 ∧ Q ((List.range n.toNat).map fun (i : Nat) => .int (0 + (i : Int))) M1) X') := by
  refine PIH_weak (L2H.pi_range1H hg hm (pa_cons ha pa_nil (star_cons hs)) (star_cons hs)) fun σ H R h => ?_
  obtain ⟨F, M, ρ, Q', X', s, r, h, pr, px⟩ := h
  refine ⟨F, M, ρ, _, X', s, r, h, fun d1 M1 ⟨n, e, h1, h2, q⟩ F1 H1 v1 st1 r1 => ?_, px⟩
  subst e
  cases r1
  exact ⟨n, rfl, h1, h2, pr _ M1 q F1 H1 _ st1 walks_range⟩
theorem di_range2 (hg : Gl X "range") (hm : X.mg "range" = none) (hs : noStar a = true) (hs2 : noStar b = true) (ha : PE X a (tE X.K W wa)) (hb : PE X b (tE X.K W wb)) :
    PI X tg (.Call (.Name "range" p) [a, b] [] pos) (tI X.K W fun ρ M Q X' => wa ρ M (fun x M1 => wb ρ M1 (fun y M2 => ∃ n m : Int, x = .int n ∧ y = .int m ∧ (-(2 ^ 62) ≤ n ∧ n < 2 ^ 62 ∧ -(2 ^ 62) ≤ m ∧ m < 2 ^ 62) ∧ Q ((List.range (m - n).toNat).map fun (i : Nat) => .int (n + (i : Int))) M2) X') X') := by
  refine PI.weak (pi_range2 hg hm (pa_cons ha (pa_cons hb pa_nil (star_cons hs2)) (star_cons hs)) (by rw [star_cons hs, star_cons hs2]; rfl) (star_cons hs2)) fun σ H R h => ?_
  obtain ⟨F, M, ρ, Q', X', s, r, h, pr, px⟩ := h
  refine two s r h px fun x y d1 d2 F2 M2 H2 st r1 r2 q => ?_
  obtain ⟨n, m, rfl, rfl, hb, q⟩ := q
  cases r1; cases r2
  exact ⟨n, m, rfl, hb, pr _ M2 q F2 H2 _ st walks_range⟩
theorem di_zip {elts : List Expr} {kk : Nat} {tpos : Pos} (hg : Gl X "zip") (hm : X.mg "zip" = none) (hs : noStar a = true) (hs2 : noStar b = true) (ha : PE X a (tE X.K W wa)) (hb : PE X b (tE X.K W wb)) :
    PI X (.Tuple elts kk tpos) (.Call (.Name "zip" p) [a, b] [] pos) (tI X.K W fun ρ M Q X' => wa ρ M (fun x M1 => wb ρ M1 (fun y M2 => ∃ xs ys, seqF x = some xs ∧ seqF y = some ys ∧ Q (List.zipWith prD xs ys) M2) X') X') := by
  refine PI.weak (pi_zipG hg hm (pa_cons ha (pa_cons hb pa_nil (star_cons hs2)) (star_cons hs)) (star_cons hs) (star_any (by simp [hs2]))) fun σ H R h => ?_
  obtain ⟨F, M, ρ, Q', X', s, r, h, pr, px⟩ := h
  refine two s r h px fun x y d1 d2 F2 M2 H2 st r1 r2 q => ?_
  obtain ⟨xs, ys, e1, e2, q⟩ := q
  obtain ⟨c1, us, k1, rfl, h1, l1⟩ := seqF_rep r1 e1
  obtain ⟨c2, vs, k2, rfl, h2, l2⟩ := seqF_rep r2 e2
  exact ⟨k1, k2, c1, c2, us, vs, rfl, sqk_ex st.fh h1, sqk_ex st.fh h2, pr _ M2 q F2 H2 _ st (walks_zip h1 l1 h2 l2)⟩
theorem di_enum {elts : List Expr} {kk : Nat} {tpos : Pos} (hg : Gl X "enumerate") (hm : X.mg "enumerate" = none) (hs : noStar a = true) (ha : PE X a (tE X.K W wa)) :
    PI X (.Tuple elts kk tpos) (.Call (.Name "enumerate" p) [a] [] pos) (tI X.K W fun ρ M Q X' => wa ρ M (fun x M1 => ∃ xs, seqF x = some xs ∧ Q (xs.zipIdx.map fun p => prD (.int (p.2 : Nat)) p.1) M1) X') := by
  refine PI.weak (pi_enumG hg hm (pa_cons ha pa_nil (star_cons hs)) (star_cons hs)) fun σ H R h => ?_
  obtain ⟨F, M, ρ, Q', X', s, r, h, pr, px⟩ := h
  refine ⟨F, M, ρ, _, X', s, r, h, fun d1 M1 ⟨xs, e, q⟩ F1 H1 v1 st1 r1 => ?_, px⟩
  obtain ⟨c, us, k, rfl, h1, rl⟩ := seqF_rep r1 e
  exact ⟨k, c, us, rfl, sqk_ex st1.fh h1, pr _ M1 q F1 H1 _ st1 (walks_enum h1 rl)⟩
theorem walks_rev {K : PySem.W.Frag} {F : Hp} {a : Addr} {xs : List V} {ds : List D} (h : SqL K F a xs) (r : RepL K F xs ds) : Walks K F (Itv K a xs.length) ds.reverse where
  go := fun i H e hi => by
    have hl := r.length
    have hi' : i < xs.length := by simpa [hl] using hi
    exact ⟨hi', xs, xs[xs.length - 1 - i], ex_l e h, List.getElem?_eq_getElem (by omega)⟩
  stop := fun H e => by show xs.length ≤ _; simp [r.length]
  yld := fun i d H x H' F' M e s hd y => by
    obtain ⟨rfl, y⟩ := y
    have hl := r.length
    have hi : i < ds.length := by simpa using (List.getElem?_eq_some_iff.mp hd).1
    rw [List.getElem?_reverse hi] at hd
    obtain ⟨v, hv, rv⟩ := r.get hd
    have hx := y xs (ex_l (e.trans s.ex) h)
    rw [hl, hv] at hx; cases hx
    exact ⟨F', Step.refl s, rv.mono e⟩
theorem walks_revT {K : PySem.W.Frag} {F : Hp} {a : Addr} {xs : List V} {ds : List D} (h : SqT K F a xs) (r : RepL K F xs ds) : Walks K F (RT.ItvT K a xs.length) ds.reverse where
  go := fun i H e hi => by
    have hl := r.length
    have hi' : i < xs.length := by simpa [hl] using hi
    exact ⟨hi', xs, xs[xs.length - 1 - i], ex_t e h, List.getElem?_eq_getElem (by omega)⟩
  stop := fun H e => by show xs.length ≤ _; simp [r.length]
  yld := fun i d H x H' F' M e s hd y => by
    obtain ⟨rfl, y⟩ := y
    have hl := r.length
    have hi : i < ds.length := by simpa using (List.getElem?_eq_some_iff.mp hd).1
    rw [List.getElem?_reverse hi] at hd
    obtain ⟨v, hv, rv⟩ := r.get hd
    have hx := y xs (ex_t (e.trans s.ex) h)
    rw [hl, hv] at hx; cases hx
    exact ⟨F', Step.refl s, rv.mono e⟩
theorem walks_rangeC {K : PySem.W.Frag} {F : Hp} {lo c : Int} {n : Nat} : Walks K F (Itc lo c n) ((List.range n).map fun (i : Nat) => .int (lo + (i : Nat) * c)) where
  go := fun i H e hi => by
    have hi' : i < n := by simpa using hi
    exact hi'
  stop := fun H e => by show n ≤ _; simp
  yld := fun i d H x H' F' M e s hd y => by
    obtain ⟨rfl, rfl⟩ := y
    have hi : i < n := by
      have := (List.getElem?_eq_some_iff.mp hd).1
      simpa using this
    have : d = .int (lo + (i : Nat) * c) := by
      rw [List.getElem?_map, List.getElem?_range hi] at hd
      exact (Option.some.inj hd).symm
    subst this
    exact ⟨F', Step.refl s, .int _⟩
theorem di_rev (hg : Gl X "reversed") (hm : X.mg "reversed" = none) (hs : noStar a = true) (ha : PE X a (tE X.K W wa)) :
    PI X tg (.Call (.Name "reversed" p) [a] [] pos) (tI X.K W fun ρ M Q X' => wa ρ M (fun x M1 => ∃ ds, seqF x = some ds ∧ Q ds.reverse M1) X') := by
  refine PI.weak (RT.pi_revA hg hm ha (star_cons hs)) fun σ H R h => ?_
  obtain ⟨F, M, ρ, Q', X', s, r, h, pr, px⟩ := h
  refine ⟨F, M, ρ, _, X', s, r, h, fun d1 M1 ⟨ds, e, q⟩ F1 H1 v1 st1 r1 => ?_, px⟩
  obtain ⟨c, xs, k, rfl, hs, rl⟩ := seqF_rep r1 e
  cases k with
  | true => exact ⟨c, xs, rfl, .inr ⟨sqk_ex (k := true) st1.fh hs, pr _ M1 q F1 H1 _ st1 (walks_revT hs rl)⟩⟩
  | false => exact ⟨c, xs, rfl, .inl ⟨sqk_ex (k := false) st1.fh hs, pr _ M1 q F1 H1 _ st1 (walks_rev hs rl)⟩⟩
theorem di_range3 {c : Expr} {wc : VE} (hg : Gl X "range") (hm : X.mg "range" = none) (hs : noStar a = true) (hs2 : noStar b = true) (hs3 : noStar c = true) (ha : PE X a (tE X.K W wa)) (hb : PE X b (tE X.K W wb)) (hc : PE X c (tE X.K W wc)) :
    PI X tg (.Call (.Name "range" p) [a, b, c] [] pos) (tI X.K W fun ρ M Q X' => wa ρ M (fun x M1 => wb ρ M1 (fun y M2 => wc ρ M2 (fun z M3 => ∃ (n m st : Int) (k : Nat), x = .int n ∧ y = .int m ∧ z = .int st ∧ RgC n m st k ∧ Q ((List.range k).map fun (i : Nat) => .int (n + (i : Nat) * st)) M3) X') X') X') := by
  refine PI.weak (pi_range3 hg hm (pa_cons ha (pa_cons hb (pa_cons hc pa_nil (star_cons hs3)) (star_cons hs2)) (star_cons hs)) (by rw [star_cons hs, star_cons hs2, star_cons hs3]) (star_any (by simp [hs2, hs3]))) fun σ H R h => ?_
  obtain ⟨F, M, ρ, Q', X', s, r, h, pr, px⟩ := h
  refine ⟨F, M, ρ, _, X', s, r, h, fun d1 M1 h1 F1 H1 v1 st1 r1 => ?_, px⟩
  refine ⟨F1, M1, ρ, _, X', st1.sat, r.mono st1.ff, h1, fun d2 M2 h2 F2 H2 v2 st2 r2 => ?_, px.step st1⟩
  have st12 := st1.trans st2
  refine ⟨F2, M2, ρ, _, X', st2.sat, r.mono st12.ff, h2, fun d3 M3 ⟨n, m, st, k, e1, e2, e3, hr, q⟩ F3 H3 v3 st3 r3 => ?_, px.step st12⟩
  subst e1 e2 e3
  cases r1; cases r2; cases r3
  exact ⟨n, m, st, k, rfl, hr, pr _ M3 q F3 H3 _ (st12.trans st3) walks_rangeC⟩
end

/-! ### targets -/
def tG (K : PySem.W.Frag) (t : Tg) : TG := fun v σ H Q => ∃ F d ρ ρ', Ex F H ∧ Rep K F v d ∧ RepE K F σ ρ ∧ bindT t d ρ = some ρ' ∧
  ∀ σ', RepE K F σ' ρ' → (∀ vs : List Nat, (∀ j ∈ slotsT t, j ∈ vs) → L2.wipe σ' vs = L2.wipe σ vs) → Q σ' H
def tGs (K : PySem.W.Frag) (t : Tgs) : TGs := fun xs σ H Q => ∃ F ds ρ ρ', Ex F H ∧ RepL K F xs ds ∧ RepE K F σ ρ ∧ bindTs t ds ρ = some ρ' ∧
  ∀ σ', RepE K F σ' ρ' → (∀ vs : List Nat, (∀ j ∈ slotsTs t, j ∈ vs) → L2.wipe σ' vs = L2.wipe σ vs) → Q σ' H
theorem PG.weak {X : Cx} {e : Expr} {t t' : TG} (h : PG X e t) (i : ∀ v σ H Q, t' v σ H Q → t v σ H Q) : PG X e t' := ⟨fun pins s σ H x v Q I r q => h.run pins s σ H x v Q I r (i _ _ _ _ q)⟩
theorem PGs.weak {X : Cx} {e : List Expr} {t t' : TGs} (h : PGs X e t) (i : ∀ v σ H Q, t' v σ H Q → t v σ H Q) : PGs X e t' := ⟨fun pins s σ H x v Q I r q => h.run pins s σ H x v Q I r (i _ _ _ _ q)⟩
theorem wipe_set {σ : L2.St} {i : Nat} {x : Option V} : ∀ {vs : List Nat}, i ∈ vs → L2.wipe (σ.set i x) vs = L2.wipe σ vs
  | [], h => by cases h
  | v :: vs, h => by
    unfold L2.wipe
    by_cases e : i ∈ vs
    · rw [wipe_set e]
    · have e2 : i = v := by
        rcases List.mem_cons.mp h with z | z
        · exact z
        · exact absurd z e
      subst e2
      have aux : ∀ {ws : List Nat}, i ∉ ws → L2.wipe (σ.set i x) ws = (L2.wipe σ ws).set i x := fun {ws} hw => by
        induction ws with
        | nil => rfl
        | cons w ws ih =>
          simp only [List.mem_cons, not_or] at hw
          show (L2.wipe (σ.set i x) ws).set w none = ((L2.wipe σ ws).set w none).set i x
          rw [ih hw.2, List.set_comm _ _ hw.1]
      rw [aux e, List.set_set]
theorem asg_cons {e : Expr} (h : noStar e = true) {es : List Expr} {env : Env} : assignEach (e :: es) env = (false, assign e env) :: assignEach es env := by
  cases e <;> first | rfl | cases h
theorem isTg_star {c : SC} {t : Tg} {e : Expr} (h : isTg c t e = true) : noStar e = true := by
  cases t <;> cases e <;> first | rfl | (unfold isTg at h; cases h)
theorem asg_len {c : SC} {env : Env} : ∀ {t : Tgs} {es : List Expr}, isTgs c t es = true → (assignEach es env).length = es.length ∧ List.findIdx? (fun x => x.fst) (assignEach es env) = none
  | .nil, [], _ => ⟨rfl, rfl⟩
  | .nil, _ :: _, h => by unfold isTgs at h; cases h
  | .cons t r, [], h => by unfold isTgs at h; cases h
  | .cons t r, e :: es, h => by
    unfold isTgs at h
    obtain ⟨h1, h2⟩ := and2 h
    obtain ⟨a, b⟩ := asg_len (env := env) h2
    rw [asg_cons (isTg_star h1)]
    refine ⟨by rw [List.length_cons, List.length_cons, a], ?_⟩
    rw [List.findIdx?_cons, b]; rfl
mutual
theorem sTg {X : Cx} {c : SC} (hN : X.N = c.N) (nd : c.N.Nodup) (hsc : X.env.scope = c.sc) (hfn : ∀ x, c.fnm x = true → X.fn x = true) (hcalm : c.calm = true → X.calm = true) : ∀ (t : Tg) (e : Expr), isTg c t e = true → PG X e (tG X.K t)
  | .nm i, e, h => by
    cases e <;> first | (unfold isTg at h; cases h; done) | skip
    rename_i x p
    unfold isTg at h
    obtain ⟨h1, h2⟩ := and2 h
    obtain ⟨l, f⟩ := locB_ok h2
    have hi : X.N[i]? = some x := by rw [hN]; exact of_decide_eq_true h1
    refine PG.weak (pg_name (i := i) (by rw [hN]; exact nd) hi (by rw [hsc]; exact l) (f.imp (hfn x) fun z => by rw [hsc]; exact z)) fun v σ H Q q => ?_
    obtain ⟨F, d, ρ, ρ', ex, r, re, hb, k⟩ := q
    have hb : some (ρ.set i (some d)) = some ρ' := hb
    cases hb
    refine k _ (re.set r) fun vs hv => wipe_set (hv i (by simp [slotsT]))
  | .tup ts, e, h => by
    cases e <;> first | (unfold isTg at h; cases h; done) | skip
    rename_i es k p
    unfold isTg at h
    obtain ⟨h1, h2⟩ := and2 h
    refine PG.weak (pg_tup (n := es.length) (hcalm h1) (sTgs hN nd hsc hfn hcalm ts es h2) (asg_len h2).1 (asg_len h2).2) fun v σ H Q q => ?_
    obtain ⟨F, d, ρ, ρ', ex, r, re, hb, kk⟩ := q
    cases d <;> first | (unfold bindT at hb; cases hb; done) | skip
    rename_i ds
    unfold bindT at hb
    cases r with
    | @tup a xs _ h3 rl =>
      have hl : xs.length = es.length := by
        rw [rl.length]
        exact bind_len ts ds ρ ρ' hb es h2
      exact ⟨a, xs, rfl, ex_t ex h3, hl, F, ds, ρ, ρ', ex, rl, re, hb, kk⟩
theorem sTgs {X : Cx} {c : SC} (hN : X.N = c.N) (nd : c.N.Nodup) (hsc : X.env.scope = c.sc) (hfn : ∀ x, c.fnm x = true → X.fn x = true) (hcalm : c.calm = true → X.calm = true) : ∀ (t : Tgs) (es : List Expr), isTgs c t es = true → PGs X es (tGs X.K t)
  | .nil, [], _ => PGs.weak pgs_nil fun v σ H Q q => by
    obtain ⟨F, ds, ρ, ρ', ex, r, re, hb, k⟩ := q
    cases r with
    | nil =>
      have hb : some ρ = some ρ' := hb
      cases hb
      exact ⟨rfl, k σ re fun _ _ => rfl⟩
    | cons h t => cases hb
  | .nil, _ :: _, h => by unfold isTgs at h; cases h
  | .cons t r, [], h => by unfold isTgs at h; cases h
  | .cons t r, e :: es, h => by
    unfold isTgs at h
    obtain ⟨h1, h2⟩ := and2 h
    refine PGs.weak (pgs_cons (sTg hN nd hsc hfn hcalm t e h1) (sTgs hN nd hsc hfn hcalm r es h2) (by rw [asg_cons (isTg_star h1)]; rfl)) fun vs σ H Q q => ?_
    obtain ⟨F, ds, ρ, ρ', ex, rl, re, hb, k⟩ := q
    cases rl with
    | nil => unfold bindTs at hb; cases hb
    | @cons v d vs ds r1 r2 =>
      unfold bindTs at hb
      cases e1 : bindT t d ρ with
      | none => simp only [e1] at hb; cases hb
      | some ρ1 =>
        simp only [e1] at hb
        refine ⟨v, vs, rfl, F, d, ρ, ρ1, ex, r1, re, e1, fun σ1 re1 w1 => ?_⟩
        refine ⟨F, ds, ρ1, ρ', ex, r2, re1, hb, fun σ2 re2 w2 => k σ2 re2 fun ws hw => ?_⟩
        rw [w2 ws fun j hj => hw j (by simp [slotsTs, hj]), w1 ws fun j hj => hw j (by simp [slotsTs, hj])]
theorem bind_len {c : SC} : ∀ (t : Tgs) (ds : List D) (ρ ρ' : Rho), bindTs t ds ρ = some ρ' → ∀ es : List Expr, isTgs c t es = true → ds.length = es.length
  | .nil, [], _, _, _, [], _ => rfl
  | .nil, [], _, _, _, _ :: _, h => by unfold isTgs at h; cases h
  | .nil, _ :: _, _, _, h, _, _ => by unfold bindTs at h; cases h
  | .cons t r, [], _, _, h, _, _ => by unfold bindTs at h; cases h
  | .cons t r, d :: ds, ρ, ρ', h, [], q => by unfold isTgs at q; cases q
  | .cons t r, d :: ds, ρ, ρ', h, e :: es, q => by
    unfold bindTs at h
    unfold isTgs at q
    cases e1 : bindT t d ρ with
    | none => simp only [e1] at h; cases h
    | some ρ1 =>
      simp only [e1] at h
      show ds.length + 1 = es.length + 1
      rw [bind_len r ds ρ1 ρ' h es (and2 q).2]
end
end Vp
namespace Vp
open PySem PySem.Spec PyProof.Rows L2 HotX L2H
section
variable {prog : Program} {w : World} {A : Around} {E : Value → Shared → Prop} {s : Shared}
/-- a list's iterator at its end, while an exception is handled -/
theorem lend_hot {it ls x1 : Addr} {k : Nat} {xs : Array Value} {Q : Option Value → Shared → Prop} (hot : HotAt A x1 s.heap) (ne : it ≠ x1) (hi : s.heap.IsListIter it ls k) (hl : s.heap.IsList ls xs) (hx : xs[k]? = none)
    (hQ : ∀ h', Heap.ExtBut it s.heap h' → HotAt A x1 h' → Q none { s with heap := h' }) : wpAny (model prog w) A (pyNext (.ref it)) Q E s := by
  obtain ⟨oi, gi, ci, di⟩ := id hi
  obtain ⟨ol, gl, cl, nl, dl⟩ := hl
  have hot0 := hot
  obtain ⟨hh, o1, vs1, g1, d1, c1⟩ := hot
  unfold pyNext
  refine wpAny_bind (wpAny_attempt (wpAny_callSpecial?_slot (name := Str.ofString "__next__") hi.typeIs slot_listiter_next
      (wpAny_call_entry slot_listiter_next hi.typeIs entry_listiter_next ?_ (args_listiter_next _))))
  refine wpAny_bind (m := field (.ref it) 0) (wpAny_field gi di (x := .ref ls) rfl ?_)
  rw [if_neg (fun z : (Value.ref ls == Value.none) = true => Bool.false_ne_true z)]
  refine wpAny_bind (m := field (.ref it) 1) (wpAny_field gi di (x := .int k 0) rfl ?_)
  refine wpAny_bind (m := seqItems? (.ref ls)) (wpAny_seqItems gl dl ?_)
  rw [show ((k : Int)).toNat = k from rfl]; simp only [hx]
  have up : ∀ b o, b ≠ it → s.heap.get? b = some o → ∀ f, (s.heap.update it f).get? b = some o := fun b o nb g f => by rw [Heap.get?_update_other _ _ (Ne.symm nb)]; exact g
  refine wpAny_bind (wpAny_rule (wpAny_bind (wpAny_setField gi di (by simp) ?_)))
  refine wpAny_bind (m := newExc (.type "StopIteration") []) ?_
  simp only [newExc, newTuple]
  refine wpAny_bind (wpAny_newObj_type ?_ (by size_fits)); refine wpAny_bind (m := firstArgMember _ _) (wpAny_of_eq (a := Value.none) (by first | rfl | (simp only [firstArgMember]; rfl)) ?_)
  refine wpAny_newObj_type ?_ (by size_fits)
  have g2 := up x1 o1 (Ne.symm ne) g1 (Obj.mapFields fun x => x.setIfInBounds 0 Value.none)
  have hx1 : ∀ z : Obj, HotAt A x1 ((((s.heap.update it (Obj.mapFields fun x => x.setIfInBounds 0 Value.none)).push { cls := Value.type "tuple", data := Data.seq #[] })).push z) := fun z => ⟨hh, o1, vs1, Heap.get?_push_of_some _ (Heap.get?_push_of_some _ g2), d1, c1⟩
  refine raiseNew_hot (hx1 _) (Nat.ne_of_lt (Heap.lt_size (Heap.get?_push_of_some _ g2))) (Heap.get?_push_size _ rfl) rfl (by first | (simp; done) | (simp; omega) | (simp only [Array.size_append]; simp; omega)) ?_
  refine wpAny_bind (wpAny_isInstance (T := "StopIteration") (b := true) ⟨_, Heap.get?_update_self _ (Heap.get?_push_size _ rfl) rfl, rfl⟩ isSubtype_stop ?_)
  have still : ∀ b o, b ≠ it → s.heap.get? b = some o → ∀ z f, ((((s.heap.update it (Obj.mapFields fun x => x.setIfInBounds 0 Value.none)).push { cls := Value.type "tuple", data := Data.seq #[] }).push z).update ((s.heap.update it (Obj.mapFields fun x => x.setIfInBounds 0 Value.none)).push { cls := Value.type "tuple", data := Data.seq #[] }).objs.size f).get? b = some o := fun b o nb g z f => by
    have g3 := up b o nb g (Obj.mapFields fun x => x.setIfInBounds 0 Value.none)
    rw [Heap.get?_update_other _ _ (Nat.ne_of_gt (Heap.lt_size (Heap.get?_push_of_some _ g3)))]
    exact Heap.get?_push_of_some _ (Heap.get?_push_of_some _ g3)
  exact wpAny_pure (hQ _ (fun b o nb g => still b o nb g _ _) ⟨hh, o1, vs1, still x1 o1 (Ne.symm ne) g1 _ _, d1, c1⟩)
/-- a list walked, while an exception is handled -/
theorem walks_hot {P : Program} {W : World} {A : Around} (it ls x1 : Addr) (nl : ls ≠ it) (nx : it ≠ x1) (xs : Array Value) :
    PySem.Walks P W A it [it, ls, x1] [it] xs.size (fun k v => xs[k]? = some v) (fun k h => (h.IsListIter it ls k ∧ h.IsList ls xs) ∧ HotAt A x1 h) := by
  refine ⟨fun b hb => by rw [List.mem_singleton.mp hb]; simp, fun k h h' st hk => ?_, fun k s Q E hk st hQ => ?_, fun s Q E st hQ => ?_, fun k s Q E st hQ => wpAny_pyIter_listiter st.1.1 hQ⟩
  · obtain ⟨st, hh, o, vs, g, r⟩ := st
    exact ⟨⟨st.1.at fun o e => hk it (by simp) o e, st.2.at fun o e => hk ls (by simp) o e⟩, hh, o, vs, hk x1 (by simp) o g, r⟩
  · obtain ⟨st, hh, o, vs, g, r⟩ := st
    refine wpAny_pyNext_list_item st.1 st.2 (x := xs[k]) (by simp [hk]) fun h2 i2 sb => hQ _ h2 s.toks (by simp [hk]) ⟨⟨i2, st.2.extBut sb.extBut nl⟩, hh, o, vs, ?_, r⟩ fun b o hb e => sb.extBut b o (fun z => hb (by simp [z])) e
    exact sb.extBut x1 o (Ne.symm nx) g
  · exact lend_hot st.2 nx st.1.1 st.1.2 (by simp) fun h2 eb _ => hQ h2 s.toks fun b o hb e => eb b o (fun z => hb (by simp [z])) e
/-- all(list), while an exception is handled -/
theorem cr_allH {X : Cx} (hc : HotC X) : CallR X (.builtin "all") (rAll X.K) := by
  intro pins s σ H vs us Q I r h
  obtain ⟨ls, bs, rfl, hs, q⟩ := h
  obtain ⟨x1, hot⟩ := hc.at I
  obtain ⟨its, rv, hl, _⟩ := I.list hs
  have hb := rv.bls
  obtain ⟨h1, o1, v1, g1, r1⟩ := hot
  have lt1 : x1 < s.heap.objs.size := Heap.lt_size g1
  rw [Vals.ref1 r]
  refine call_all_walk (iter_any hl.isList fun s2 e2 st ne => ?_)
  subst e2
  refine ⟨s.heap.objs.size, _, _, _, _, _, _, rfl, walks_hot (A := X.A.in1) s.heap.objs.size ls x1 ne (Nat.ne_of_gt lt1) its.toArray, ⟨st, h1, o1, v1, Heap.get?_push_of_some _ g1, r1⟩, truth_bools hb, fun h2 tk hk => ⟨.bl _, H, I.kept fun b o e => hk b o (fun hm => ?_) (Heap.get?_push_of_some _ e), ?_, q⟩⟩
  · rw [List.mem_singleton.mp hm] at e
    exact Nat.lt_irrefl _ (Heap.lt_size e)
  · show Value.bool _ = Value.bool _
    rw [← L2.all_range, hb, List.size_toArray, List.length_map]
end
end Vp
namespace Vp
open PySem PySem.Spec PyProof.Rows L2 HotX L2H
/-- the block of a comprehension that keeps what is pinned -/
abbrev blkP (X : Cx) (s : Shared) (H : Hp) (scope : Scope) (cenv : Env) (fp : List Addr) : Cx := { X.blk s H scope cenv fp with pn := X.pn }
section
variable {X : Cx}
theorem inv_repin {Y : Cx} {l l' pins pins' : List (Addr × Obj)} {σ : L2.St} {H : Hp} {s : Shared} (I : Inv { Y with pn := l } pins σ H s)
    (hp : ∀ p ∈ l' ++ pins', s.heap.get? p.1 = some p.2 ∧ H p.1 = none ∧ p.1 ≠ Y.env.locals ∧ p.1 ∉ Y.fs ∧ ∀ v, p.2.data ≠ .cell v) : Inv { Y with pn := l' } pins' σ H s :=
  ⟨⟨I.ok.mod, I.ok.kind, I.ok.glob, I.ok.blt, I.ok.above, I.ok.inj, I.ok.has, I.ok.cab, I.ok.hd, I.ok.frames, I.ok.stk, I.ok.exf, I.ok.bs, I.ok.bsz, I.ok.noex, I.ok.exfs, I.ok.funs, I.ok.frf⟩,
    I.os, I.bare, I.base, I.loc, I.cell, I.free, I.freeC, hp, I.hok, I.len⟩
/-- the environment of the block, where the heap ends at n -/
abbrev ceAt (X : Cx) (scope : Scope) (n : Nat) : Env := compEnvC scope (cellsFrom (n + 1) scope.names (cloFrom X.env.cells scope.names [])) n X.env
theorem block_startP {scope : Scope} {own : List (Str × Nat)} {fp : List Addr} {pins : List (Addr × Obj)} {σ : L2.St} {H : Hp} {t : Shared} (I : Inv X pins σ H t) (ok : BlkOk X.N X.env.scope scope own) (nd : X.N.Nodup) (hf : ∀ b ∈ fp, FpOk X pins H b ∧ b < t.heap.objs.size) :
    Inv (blkP X t H scope (ceAt X scope t.heap.objs.size) fp) [] (wipe σ (own.map (·.2))) H { t with heap := pushCells (t.heap.push { cls := .type "dict", data := .dict #[] }) scope.names } := by
  have J := block_start I ok nd hf
  refine inv_repin (Y := X.blk t H scope (ceAt X scope t.heap.objs.size) fp) (l := []) J fun p hp => ?_
  have hp : p ∈ X.pn ++ pins := List.mem_append_left _ (by simpa using hp)
  obtain ⟨q1, q2, q3, q4, q5⟩ := I.pin p hp
  refine ⟨pushCells_keeps _ _ _ _ (Heap.get?_push_of_some _ q1), q2, Nat.ne_of_lt (Heap.lt_size q1), fun hm => ?_, q5⟩
  exact (List.mem_cons.mp (I.stkSub p.1 hm)).elim q3 q4
/-- a comprehension, while an exception is handled -/
theorem lcH {pins : List (Addr × Obj)} {s0 : Shared} {σ : L2.St} {H : Hp} {Q : VK} {elt tg iter : Expr} {ifs : List Expr} {scope : Scope} {own : List (Str × Nat)} {pos pos' : Pos} {wi : TI} {g : TG} {tt : TT} {te : TE} {use : Option (Value → Sem Unit)} {Qf : Value → Shared → Prop}
    (hot : HotC X) (nd : X.N.Nodup) (I : Inv X pins σ H s0) (hi : PIH X tg iter wi) (ok : BlkOk X.N X.env.scope scope own)
    (hg : ∀ (s : Shared) (H : Hp) (C : Addr) (cl : List (Str × Addr)) (fp : List Addr), PG (blkP X s H scope (compEnvC scope cl C X.env) fp) tg g)
    (ht : ∀ (s : Shared) (H : Hp) (C : Addr) (cl : List (Str × Addr)) (fp : List Addr), PTs (blkP X s H scope (compEnvC scope cl C X.env) fp) ifs tt)
    (he : ∀ (s : Shared) (H : Hp) (C : Addr) (cl : List (Str × Addr)) (fp : List Addr), PE (blkP X s H scope (compEnvC scope cl C X.env) fp) elt te) (hs : ∀ x, foldedSetIterable iter X.env x = pure x)
    (h : tLc wi g tt te (own.map (·.2)) σ H Q)
    (out : ∀ D C t m H', Inv X pins σ H' t → Q (.ref D) H' → t.heap.Ns C m → FpOk X pins H' C → compPost (model X.prog X.w) X.A X.xe use Qf (.ref D) C (.ok .next) t) :
    wpAny (model X.prog X.w) X.A (comprehension (.ListComp elt [⟨tg, iter, ifs, 0⟩] scope pos) scope X.env pos' (newList []) false (eval iter X.env) use) Qf X.xe s0 := by
  have frees : ∀ y ∈ scope.names, y.2 = .free → ∃ c, X.env.cells.lookup y.1 = some c := fun y hy e => (ok.free y hy e).elim (fun k => I.ok.has _ (.inl k)) fun k => I.ok.has _ (.inr k)
  refine wpAny_comprehension_free (use := use) rfl hs (closure_ok frees) ok.kind (fun y hy e => by rw [ok.uniq y hy, e]) (thn (hi.run pins s0 σ H _ I h) fun xv t1 hx => thn hx fun itv t2 got => ?_)
  obtain ⟨it, fp, tn, J, H2, e0, I2, T, st2, f2, q⟩ := got
  subst e0
  refine wpAny_newObj_type (newEnv_comp ?_) (by show 0 ≤ sizeLine; decide)
  obtain ⟨D, hD⟩ : ∃ D, t2.heap.objs.size = D := ⟨_, rfl⟩
  obtain ⟨W, ⟨m0, w0⟩, turn⟩ := q D (I2.hok.fresh (Nat.le_of_eq hD))
  obtain ⟨t3, ht3⟩ : ∃ t3 : Shared, { t2 with heap := t2.heap.push { cls := .type "list", data := .seq ([] : List Value).toArray } } = t3 := ⟨_, rfl⟩
  have hp3 : t3.heap = t2.heap.push { cls := .type "list", data := .seq ([] : List Value).toArray } := by rw [← ht3]
  have kp3 : ∀ b o, t2.heap.get? b = some o → t3.heap.get? b = some o := fun b o e => by rw [hp3]; exact Heap.get?_push_of_some _ e
  have I3 : Inv X pins σ (upd H2 D (.lst [])) t3 := by
    subst ht3
    exact I2.laid (t' := t2.toks) (fun b o e => Heap.get?_push_of_some _ e) (Nat.le_of_eq hD) ⟨Nat.zero_le _, [], 0, .nil, by rw [← hD]; exact Heap.get?_push_size _ rfl⟩
  have szf : ∀ b ∈ fp, b < t2.heap.objs.size := fun b hb => let ⟨o, e, _⟩ := T.obj _ _ st2 b hb; Heap.lt_size e
  have f3 : ∀ b ∈ fp, FpOk X pins (upd H2 D (.lst [])) b ∧ b < t3.heap.objs.size := fun b hb =>
    ⟨⟨by rw [upd_ne (by rw [← hD]; exact Nat.ne_of_lt (szf b hb))]; exact (f2 b hb).1, (f2 b hb).2⟩, by rw [hp3, Heap.size_push]; exact Nat.lt_succ_of_lt (szf b hb)⟩
  have st3 : tn 0 t3.heap := T.keep _ _ _ st2 fun b _ o e => kp3 b o e
  have I4 := block_startP I3 ok nd f3
  subst ht3
  generalize ht3 : ({ t2 with heap := t2.heap.push { cls := .type "list", data := .seq ([] : List Value).toArray } } : Shared) = t3 at I3 hp3 kp3 f3 st3 I4 ⊢
  show codeAny _ _ (.compStart (.ListComp elt [⟨tg, iter, ifs, 0⟩] scope pos) 0 (.ref it) (.ref t2.heap.objs.size) (ceAt X scope t3.heap.objs.size)) (compPost (model X.prog X.w) X.A X.xe use Qf (.ref t2.heap.objs.size) t3.heap.objs.size) { t3 with heap := pushCells (t3.heap.push { cls := .type "dict", data := .dict #[] }) scope.names }
  rw [hD]
  have gA := hg t3 (upd H2 D (.lst [])) t3.heap.objs.size (cellsFrom (t3.heap.objs.size + 1) scope.names (cloFrom X.env.cells scope.names [])) fp
  have tA := ht t3 (upd H2 D (.lst [])) t3.heap.objs.size (cellsFrom (t3.heap.objs.size + 1) scope.names (cloFrom X.env.cells scope.names [])) fp
  have eA := he t3 (upd H2 D (.lst [])) t3.heap.objs.size (cellsFrom (t3.heap.objs.size + 1) scope.names (cloFrom X.env.cells scope.names [])) fp
  have off0 : ∀ b ∈ fp, (upd H2 D (.lst [])) b = none := fun b hb => (f3 b hb).1.1
  have cel : (ceAt X scope t3.heap.objs.size).locals = t3.heap.objs.size := rfl
  generalize hce : ceAt X scope t3.heap.objs.size = ce at I4 cel ⊢
  have hce2 : compEnvC scope (cellsFrom (t3.heap.objs.size + 1) scope.names (cloFrom X.env.cells scope.names [])) t3.heap.objs.size X.env = ce := hce
  rw [hce2] at gA tA eA
  generalize hH3 : upd H2 D (.lst []) = H3 at I3 I4 gA tA eA w0 off0 f3
  generalize ht4 : ({ t3 with heap := pushCells (t3.heap.push { cls := .type "dict", data := .dict #[] }) scope.names } : Shared) = t4 at I4 ⊢
  have st4 : tn 0 t4.heap := T.keep _ _ _ st3 fun b _ o e => by rw [← ht4]; exact pushCells_keeps _ _ _ _ (Heap.get?_push_of_some _ e)
  have hotB : HotC (blkP X t3 H3 scope ce fp) := hot
  have stay : ∀ {σ' : L2.St} {H' : Hp} {s' : Shared}, Inv (blkP X t3 H3 scope ce fp) [] σ' H' s' → (∀ b ∈ fp, H' b = none) → ∀ b ∈ fp, FpOk (blkP X t3 H3 scope ce fp) [] H' b := fun {σ' H' s'} J' hn b hb =>
    ⟨hn b hb, (J'.ok.exf b hb).1, J'.ok.exfs b hb, .inl hb, fun x c e => (J'.ok.exf b hb).2 x c e, fun p hp => (f3 b hb).1.2.2.2.2.2 p (List.mem_append_left _ (by simpa using hp))⟩
  have loop : codeAny (model X.prog X.w) X.A (.compLoop (.ListComp elt [⟨tg, iter, ifs, 0⟩] scope pos) 0 (.ref it) (.ref D) ce) (compPost (model X.prog X.w) X.A X.xe use Qf (.ref D) t3.heap.objs.size) t4 := by
    refine compLoop_any (fun m t => ∃ i G, Inv (blkP X t3 H3 scope ce fp) [] (wipe σ (own.map (·.2))) G t ∧ tn i t.heap ∧ (∀ b ∈ fp, G b = none) ∧ W i m G) ?_ m0 ⟨0, H3, I4, st4, off0, w0⟩
    rintro m t5 ⟨i, H5, I5, st5, off5, w5⟩
    rcases turn i m H5 w5 with ⟨stop, qq⟩ | ⟨go, Nx, hNx, step⟩
    · refine thnF (T.done (blkP X t3 H3 scope ce fp) rfl rfl rfl hotB i [] t5 _ H5 (fun _ _ => False) I5 (stay I5 off5) st5 stop) fun r t6 ⟨hr, I6⟩ => ?_
      subst hr
      have back : Inv X pins σ H5 t6 := I3.call' (ch := fp) I6.os I6.base I6.hok I6.bare fun b hb => let z := (f3 b hb).1; ⟨z.2.2.2.1, z.2.1, z.2.2.2.2.1, z.2.2.2.2.2⟩
      have nC : H5 t3.heap.objs.size = none := by rw [← cel]; exact I6.free
      obtain ⟨mm, hn, _⟩ := I6.loc
      have hn : t6.heap.Ns ce.locals mm := hn
      exact out D t3.heap.objs.size t6 mm H5 back qq (by rw [← cel]; exact hn) (I3.fpOk (Nat.le_refl _) nC)
    · refine thnF (T.item (blkP X t3 H3 scope ce fp) rfl rfl rfl hotB i [] t5 _ H5 (fun _ _ => False) I5 (stay I5 off5) st5 go) fun r t6 ⟨u, hr, h6⟩ => ?_
      subst hr
      refine thnF h6 fun _ t7 ⟨x, H7, I7, r7, y7, st7, off7⟩ => ?_
      refine thnF (gA.run _ t7 _ H7 x u _ (I7.pinned (stay I7 off7) (T.obj _ _ st7)) r7 (step x H7 y7)) fun _ t8 ⟨σ8, H8, I8, hw8, q8⟩ => thnF (tA.run _ t8 σ8 H8 _ I8 q8) fun b t9 ⟨H9, I9, q9⟩ => ?_
      have fin : ∀ {t : Shared} {G : Hp}, Inv (blkP X t3 H3 scope ce fp) ([] ++ pinsAt fp t7.heap) σ8 G t → Nx G → ∃ k, k < m ∧ ∃ i G, Inv (blkP X t3 H3 scope ce fp) [] (wipe σ (own.map (·.2))) G t ∧ tn i t.heap ∧ (∀ b ∈ fp, G b = none) ∧ W i k G := fun {t G} J nx => by
        obtain ⟨k, hk, w'⟩ := hNx G nx
        have still : ∀ b ∈ fp, ∀ o, t7.heap.get? b = some o → t.heap.get? b = some o ∧ G b = none := fun b hb o e => ⟨(J.pin (b, o) (List.mem_append_right _ (List.mem_append_right _ (mem_pinsAt hb e)))).1, (J.pin (b, o) (List.mem_append_right _ (List.mem_append_right _ (mem_pinsAt hb e)))).2.1⟩
        refine ⟨k, hk, i + 1, G, (J.unpinned (pins := [])).weak (by rw [← hw8, wipe_length]) (fun j v e => ?_), T.keep _ _ _ st7 fun b hb o e => (still b hb o e).1, fun b hb => ?_, w'⟩
        · exact (wipe_some (show (wipe σ8 (own.map (·.2)))[j]? = _ by rw [hw8]; exact e)).1
        · obtain ⟨o, e, _⟩ := T.obj _ _ st7 b hb
          exact (still b hb o e).2
      cases b with
      | false => exact fin I9 q9
      | true => exact thnF (eA.run _ t9 σ8 H9 _ I9 q9) fun z t10 ⟨yv, H10, I10, r10, acc, hD10, hz10, nx⟩ => app_ok (X := blkP X t3 H3 scope ce fp) I10 hD10 hz10 r10 fun t11 I11 => fin I11 nx
  exact codeAny_compStart_list loop (T.self X.A 0 _ _ _ st4 loop)
/-- .. as a value -/
theorem pe_lcH {elt tg iter : Expr} {ifs : List Expr} {scope : Scope} {own : List (Str × Nat)} {pos : Pos} {wi : TI} {g : TG} {tt : TT} {te : TE} (hot : HotC X) (nd : X.N.Nodup) (hi : PIH X tg iter wi) (ok : BlkOk X.N X.env.scope scope own)
    (hg : ∀ (s : Shared) (H : Hp) (C : Addr) (cl : List (Str × Addr)) (fp : List Addr), PG (blkP X s H scope (compEnvC scope cl C X.env) fp) tg g)
    (ht : ∀ (s : Shared) (H : Hp) (C : Addr) (cl : List (Str × Addr)) (fp : List Addr), PTs (blkP X s H scope (compEnvC scope cl C X.env) fp) ifs tt)
    (he : ∀ (s : Shared) (H : Hp) (C : Addr) (cl : List (Str × Addr)) (fp : List Addr), PE (blkP X s H scope (compEnvC scope cl C X.env) fp) elt te) (hs : ∀ x, foldedSetIterable iter X.env x = pure x) :
    PE X (.ListComp elt [⟨tg, iter, ifs, 0⟩] scope pos) (tLc wi g tt te (own.map (·.2))) := by
  refine ⟨fun pins s0 σ H Q I h => ?_⟩
  rw [eval_ListComp]
  refine lcH hot nd I hi ok hg ht he hs h fun D C t m H' J q hn f => ⟨m, hn, fun h2 sb => ?_⟩
  exact ⟨.ref D, H', J.turned (t' := t.toks) (fun b o hb e => (sb.2 b hb).trans e) f.1 f.2.1 f.2.2.2.1 f.2.2.2.2.1 f.2.2.2.2.2, rfl, q⟩
end
end Vp
namespace Vp
open PySem PySem.Spec PyProof.Rows L2

section
variable {K : PySem.W.Frag} {F F1 H H1 : Hp} {M M1 : Mo} {D : Addr} {o : HO}
/-- a new object that was not told of is told now -/
theorem Step.adopt (s : Step K F1 M1 H1 F M H) (h1 : H1 D = none) (f : F D = none) (m : M D = none) (h : H D = some o) : Step K F1 M1 H1 (upd F D o) M H where
  ff := s.ff.new (s.ff.none f)
  fh := fun a u e => by
    by_cases z : a = D
    · subst z; rw [upd_same] at e; cases e; exact h
    · rw [upd_ne z] at e; exact s.fh a u e
  m := fun a mo e => by
    have z : a ≠ D := fun z => by rw [z, m] at e; cases e
    obtain ⟨f1, ho, h2, r⟩ := s.m a mo e
    exact ⟨by rw [upd_ne z]; exact f1, ho, h2, r.mono ((Ex.refl F).new f)⟩
  keep := s.keep
  newF := fun a e n g => by
    have z : a ≠ D := fun z => by rw [z] at e; exact e h1
    rw [upd_ne z]; exact s.newF a e n g
  newM := s.newM
  th := s.th
theorem Step.adoptM (s : Step K F1 M1 H1 F M H) (h1 : H1 D = none) (f : F D = none) {mo : MO} (h : H D = some o) (r : RepO K F o mo) : Step K F1 M1 H1 F (updM M D mo) H where
  ff := s.ff
  fh := s.fh
  m := fun a mo' e => by
    by_cases z : a = D
    · subst z; rw [updM_same] at e; cases e; exact ⟨f, o, h, r⟩
    · rw [updM_ne z] at e; exact s.m a mo' e
  keep := s.keep
  newF := s.newF
  newM := fun a e n => by
    have z : a ≠ D := fun z => by rw [z] at e; exact e h1
    rw [updM_ne z]; exact s.newM a e n
  th := s.th
/-- .. and changes, untold -/
theorem Step.poke (s : Step K F1 M1 H1 F M H) (h1 : H1 D = none) (f : F D = none) (m : M D = none) : Step K F1 M1 H1 F M (upd H D o) where
  ff := s.ff
  fh := fun a u e => by
    have z : a ≠ D := fun z => by rw [z, f] at e; cases e
    rw [upd_ne z]; exact s.fh a u e
  m := fun a mo e => by
    have z : a ≠ D := fun z => by rw [z, m] at e; cases e
    obtain ⟨f1, ho, h2, r⟩ := s.m a mo e
    exact ⟨f1, ho, by rw [upd_ne z]; exact h2, r⟩
  keep := fun a u e n => by
    have z : a ≠ D := fun z => by rw [z, h1] at e; cases e
    rw [upd_ne z]; exact s.keep a u e n
  newF := s.newF
  newM := s.newM
  th := fun a h => th_upd a (s.th a h)
end

def W0 : WX := fun _ _ _ _ => False
theorem px0 {K : PySem.W.Frag} {F : Hp} {M : Mo} {H : Hp} {σ : L2.St} : PX K F M H W0 σ noX := fun _ _ _ h => absurd h id
/-- [elt for target in iter (if ..)] -/
theorem de_compW {X : Cx} {W : WX} {own : List (Str × Nat)} {wi : WL} {t : Tg} {wt : WT} {we : VE} {m : Bool} (ho : own.map (·.2) = slotsT t) :
    ∀ σ H Q, tE X.K W (fun ρ M Q X' => wi ρ M (fun ds M1 => ds.length ≤ 16777216 ∧ vComp we wt t ρ ds [] M1 (fun acc M2 => if m = true then ∀ p, M2 p = none → Q (.ref p) (updM M2 p (.lst acc)) else Q (.lst acc) M2)) X') σ H Q →
      tLc (tI X.K W wi) (tG X.K t) (tT X.K W0 wt) (tE X.K W0 we) (own.map (·.2)) σ H Q := by
  intro σ H Q h
  obtain ⟨F, M, ρ, Q', X', s, re, h, pv, px⟩ := h
  rw [ho]
  refine ⟨F, M, ρ, _, X', s, re, h, fun ds M1 ⟨hz, hw⟩ F1 H1 J st1 wk => ?_, px⟩
  intro D hD
  obtain ⟨fD, mD⟩ := st1.sat.none hD
  refine ⟨fun i mm H' => mm = ds.length - i ∧ i ≤ ds.length ∧ ∃ F2 M2 accV acc, Step X.K F1 M1 H1 F2 M2 H' ∧ F2 D = none ∧ M2 D = none ∧ H' D = some (.lst accV) ∧ RepL X.K F2 accV acc ∧ acc.length ≤ i ∧
      vComp we wt t ρ (ds.drop i) acc M2 (fun acc M2 => if m = true then ∀ p, M2 p = none → Q' (.ref p) (updM M2 p (.lst acc)) else Q' (.lst acc) M2),
    ⟨ds.length, by simp, Nat.zero_le _, F1, M1, [], [], st1.sat.newH hD _, fD, mD, upd_same, .nil, Nat.le_refl _, hw⟩, ?_⟩
  rintro i mm H2 ⟨rfl, hi2, F2, M2, accV, acc, st2, fD2, mD2, hD2, ra, hla, hw2⟩
  by_cases hlt : i < ds.length
  · refine .inr ⟨wk.go i H2 (st2.ff.trans st2.fh) hlt, fun H' => ∃ F2 M2 accV acc, Step X.K F1 M1 H1 F2 M2 H' ∧ F2 D = none ∧ M2 D = none ∧ H' D = some (.lst accV) ∧ RepL X.K F2 accV acc ∧ acc.length ≤ i + 1 ∧
        vComp we wt t ρ (ds.drop (i + 1)) acc M2 (fun acc M2 => if m = true then ∀ p, M2 p = none → Q' (.ref p) (updM M2 p (.lst acc)) else Q' (.lst acc) M2), fun H' n => ⟨ds.length - (i + 1), by omega, rfl, hlt, n⟩, fun x H3 y => ?_⟩
    have hd : ds[i]? = some ds[i] := List.getElem?_eq_getElem hlt
    obtain ⟨F3, st3, rx⟩ := wk.yld i ds[i] H2 x H3 F2 M2 st2.ff st2.sat hd y
    rw [List.drop_eq_getElem_cons hlt] at hw2
    obtain ⟨ρ', hb, hw3⟩ := hw2
    have stA := st2.trans st3
    have nD2 : H2 D ≠ none := by rw [hD2]; simp
    have fD3 : F3 D = none := st3.newF D nD2 mD2 fD2
    have hD3 : H3 D = some (.lst accV) := st3.keep D _ hD2 mD2
    refine ⟨F3, ds[i], wipeR ρ (slotsT t), ρ', st3.fh, rx, (re.mono (st1.ff.trans stA.ff)).wipe _, hb, fun σ2 re2 w2 => ⟨?_, ?_⟩⟩
    · have e := w2 (slotsT t) fun j hj => hj
      rw [e]
      have idem : ∀ vs : List Nat, L2.wipe (L2.wipe σ vs) vs = L2.wipe σ vs := fun vs => by
        have sub : ∀ (us : List Nat) (σ : L2.St), (∀ j ∈ us, j ∈ vs) → L2.wipe (L2.wipe σ us) vs = L2.wipe σ vs := fun us => by
          induction us with
          | nil => intro σ _; rfl
          | cons u us ih =>
            intro σ hs
            show L2.wipe ((L2.wipe σ us).set u none) vs = _
            rw [wipe_set (hs u (by simp))]
            exact ih σ fun j hj => hs j (by simp [hj])
        exact sub vs σ fun _ h => h
      exact idem _
    · refine ⟨F3, M2, ρ', _, noX, st3.sat, re2, hw3, fun b M4 hb4 F4 H4 st4 => ?_, px0⟩
      have nD3 : H3 D ≠ none := by rw [hD3]; simp
      have fD4 : F4 D = none := st4.newF D nD3 mD2 fD3
      have mD4 : M4 D = none := st4.newM D nD3 mD2
      have hD4 : H4 D = some (.lst accV) := st4.keep D _ hD3 mD2
      have stB := stA.trans st4
      cases b with
      | false => exact iteF ⟨F4, M4, accV, acc, stB, fD4, mD4, hD4, ra.mono (st3.ff.trans st4.ff), by omega, by simpa using hb4⟩
      | true =>
        refine iteT ⟨F4, M4, ρ', _, noX, st4.sat, re2.mono st4.ff, by simpa using hb4, fun y M5 hw5 F5 H5 yv st5 ry => ?_, px0⟩
        have nD4 : H4 D ≠ none := by rw [hD4]; simp
        have fD5 : F5 D = none := st5.newF D nD4 mD4 fD4
        have mD5 : M5 D = none := st5.newM D nD4 mD4
        have hD5 : H5 D = some (.lst accV) := st5.keep D _ hD4 mD4
        have ra5 := ra.mono ((st3.ff.trans st4.ff).trans st5.ff)
        refine ⟨accV, hD5, ?_, F5, M5, accV ++ [yv], acc ++ [y], (stB.trans st5).poke hD fD5 mD5, fD5, mD5, upd_same, ra5.append (.cons ry .nil), by rw [List.length_append]; show acc.length + 1 ≤ i + 1; omega, hw5⟩
        rw [ra.length, sizeLine_eq]; omega
  · have e : i = ds.length := by omega
    subst e
    rw [List.drop_length] at hw2
    refine .inl ⟨wk.stop H2 (st2.ff.trans st2.fh), ?_⟩
    have hw3 : (if m = true then ∀ p, M2 p = none → Q' (.ref p) (updM M2 p (.lst acc)) else Q' (.lst acc) M2) := hw2
    cases m with
    | true =>
      have hw4 : ∀ p, M2 p = none → Q' (.ref p) (updM M2 p (.lst acc)) := by simpa using hw3
      exact (pv.step st1) _ _ (hw4 D mD2) F2 H2 _ (st2.adoptM hD fD2 (mo := .lst acc) hD2 ⟨accV, rfl, ra⟩) (.ref D)
    | false =>
      have hw4 : Q' (.lst acc) M2 := by simpa using hw3
      exact (pv.step st1) _ _ hw4 _ H2 _ (st2.adopt hD fD2 mD2 hD2) (.lst (SqL.of upd_same) (ra.mono ((Ex.refl F2).new fD2)))

theorem de_comp {X : Cx} {W : WX} {elt tg iter : Expr} {ifs : List Expr} {scope : Scope} {pos : Pos} {own : List (Str × Nat)} {wi : WL} {t : Tg} {wt : WT} {we : VE} {m : Bool} (hc : X.calm = true) (hN : X.N.Nodup) (hi : PI X tg iter (tI X.K W wi)) (ok : BlkOk X.N X.env.scope scope own) (ho : own.map (·.2) = slotsT t)
    (hg : ∀ (s : Shared) (H : Hp) (C : Addr) (cl : List (Str × Addr)) (fp : List Addr), PG (X.blk s H scope (compEnvC scope cl C X.env) fp) tg (tG X.K t)) (ht : ∀ (s : Shared) (H : Hp) (C : Addr) (cl : List (Str × Addr)) (fp : List Addr), PTs (X.blk s H scope (compEnvC scope cl C X.env) fp) ifs (tT X.K W0 wt))
    (he : ∀ (s : Shared) (H : Hp) (C : Addr) (cl : List (Str × Addr)) (fp : List Addr), PE (X.blk s H scope (compEnvC scope cl C X.env) fp) elt (tE X.K W0 we)) :
    ∀ σ H Q, tE X.K W (fun ρ M Q X' => wi ρ M (fun ds M1 => ds.length ≤ 16777216 ∧ vComp we wt t ρ ds [] M1 (fun acc M2 => if m = true then ∀ p, M2 p = none → Q (.ref p) (updM M2 p (.lst acc)) else Q (.lst acc) M2)) X') σ H Q →
      tLc (tI X.K W wi) (tG X.K t) (tT X.K W0 wt) (tE X.K W0 we) (own.map (·.2)) σ H Q :=
  de_compW ho
theorem PTs.weak {X : Cx} {es : List Expr} {t t' : TT} (h : PTs X es t) (i : ∀ σ H Q, t' σ H Q → t σ H Q) : PTs X es t' := ⟨fun pins s σ H Q I q => h.run pins s σ H Q I (i σ H Q q)⟩
theorem XO.blk {X : Cx} {Γ : Gam} {W : WX} {c : SC} (h : XO X Γ W c) (scope : Scope) (s : Shared) (H : Hp) (C : Addr) (cl : List (Str × Addr)) (fp : List Addr) : XO (X.blk s H scope (compEnvC scope cl C X.env) fp) Γ W0 (c.blk scope) where
  hN := h.hN
  nd := h.nd
  sc := by show relS scope X.env.scope = relS scope c.sc; rw [h.sc]
  fn := fun x e => e
  calm := h.calm
  fns := h.fns
  cs := h.cs
  mks := h.mks
  mts := h.mts
  csOk := h.csOk
  fls := h.fls
  bis := h.bis
  tk := takes0N
  po := PassesOwn.never
  room := h.room
  tb := fun e => nomatch e
  un := h.un
  hotn := fun e => let ⟨a, b, c', d, e', _⟩ := h.hotn e; ⟨a, b, c', d, e', rfl⟩
  kms := h.kms
  xcs := h.xcs
  xcm := h.xcm
  pes := h.pes
  pesOk := h.pesOk
  exm := h.exm
  xfl := h.xfl
  kd := h.kd
  xh := fun e => nomatch e
  hfs := fun e => absurd rfl e
  hotc := fun e => absurd rfl e
theorem XO.blkP {X : Cx} {Γ : Gam} {W : WX} {c : SC} (h : XO X Γ W c) (scope : Scope) (s : Shared) (H : Hp) (C : Addr) (cl : List (Str × Addr)) (fp : List Addr) : XO (blkP X s H scope (compEnvC scope cl C X.env) fp) Γ W0 (c.blkP scope) where
  hN := h.hN
  nd := h.nd
  sc := by show relS scope X.env.scope = relS scope c.sc; rw [h.sc]
  fn := fun x e => e
  calm := h.calm
  fns := h.fns
  cs := h.cs
  mks := h.mks
  mts := h.mts
  csOk := h.csOk
  fls := h.fls
  bis := h.bis
  tk := takes0N
  po := PassesOwn.never
  room := h.room
  tb := fun e => nomatch e
  un := h.un
  hotn := fun e => let ⟨a, b, c', d, e', _⟩ := h.hotn e; ⟨a, b, c', d, e', rfl⟩
  kms := h.kms
  xcs := h.xcs
  xcm := h.xcm
  pes := h.pes
  pesOk := h.pesOk
  exm := h.exm
  xfl := h.xfl
  kd := h.kd
  xh := fun e => nomatch e
  hfs := h.hfs
  hotc := h.hotc
theorem xo_units {X : Cx} {Γ : Gam} {W : WX} {c : SC} (h : XO X Γ W c) : X.A.units + 64 < cLine := by have := h.un; omega
theorem xo_unit1 {X : Cx} {Γ : Gam} {W : WX} {c : SC} (h : XO X Γ W c) : X.A.units + 1 < cLine := by have := h.un; omega
theorem and_tail {op : BoolOp} {y : Expr} {r : List Expr} {p : Pos} {X : Cx} {t : TE} (h : PE X (andTail op y r p) t) : PE X (.BoolOp op (y :: r) p) t := by
  cases r with
  | nil => exact pe_one h
  | cons z r => exact h
theorem and_tailT {y : Expr} {r : List Expr} {p : Pos} {X : Cx} {t : TT} (h : PT X (andTail .And y r p) t) : PW X (.BoolOp .And (y :: r) p) t := by
  cases r with
  | nil => exact pw_and1 h
  | cons z r => exact pw_bool h
theorem or_tailT {y : Expr} {r : List Expr} {p : Pos} {X : Cx} {t : TT} (h : PT X (andTail .Or y r p) t) : PW X (.BoolOp .Or (y :: r) p) t := by
  cases r with
  | nil => exact pw_or1 h
  | cons z r => exact pw_bool h
theorem fOp_none {op : Operator} (h : ∀ a b, binV op a b = none) {a b : D} {M : Mo} {Q : QE} : ¬ fOp (binV op) a b M Q := fun ⟨d, e, _⟩ => by rw [h a b] at e; cases e
end Vp
namespace Vp
open PySem PySem.Spec PyProof.Rows L2

theorem wipe_idem {σ : L2.St} (vs : List Nat) : L2.wipe (L2.wipe σ vs) vs = L2.wipe σ vs := by
  have sub : ∀ (us : List Nat) (σ : L2.St), (∀ j ∈ us, j ∈ vs) → L2.wipe (L2.wipe σ us) vs = L2.wipe σ vs := fun us => by
    induction us with
    | nil => intro σ _; rfl
    | cons u us ih =>
      intro σ hs
      show L2.wipe ((L2.wipe σ us).set u none) vs = _
      rw [wipe_set (hs u (by simp))]
      exact ih σ fun j hj => hs j (by simp [hj])
  exact sub vs σ fun _ h => h
/-- [elt for target in iter (if ..) for target in iter (if ..)] -/
theorem de_comp2 {X : Cx} {W : WX} {own : List (Str × Nat)} {wi wi1 : WL} {t t1 : Tg} {wt wt1 : WT} {we : VE} {m : Bool} (ho : own.map (·.2) = slotsT t ++ slotsT t1) :
    ∀ σ H Q, tE X.K W (fun ρ M Q X' => wi ρ M (fun ds M1 => vComp2 we wt t wi1 wt1 t1 ρ ds [] M1 (fun acc M2 => if m = true then ∀ p, M2 p = none → Q (.ref p) (updM M2 p (.lst acc)) else Q (.lst acc) M2)) X') σ H Q →
      tLc2 (tI X.K W wi) (tG X.K t) (tT X.K W0 wt) (tI X.K W0 wi1) (tG X.K t1) (tT X.K W0 wt1) (tE X.K W0 we) (own.map (·.2)) (slotsT t1) σ H Q := by
  intro σ H Q h
  obtain ⟨F, M, ρ, Q', X', s, re, h, pv, px⟩ := h
  rw [ho]
  refine ⟨F, M, ρ, _, X', s, re, h, fun ds M1 hw F1 H1 J st1 wk => ?_, px⟩
  intro z0 hD
  obtain ⟨fD, mD⟩ := st1.sat.none hD
  let Qf : List D → Mo → Prop := fun acc M2 => if m = true then ∀ p, M2 p = none → Q' (.ref p) (updM M2 p (.lst acc)) else Q' (.lst acc) M2
  let St2 : Hp → Nat → Prop := fun H' i => ∃ F2 M2 accV acc, Step X.K F1 M1 H1 F2 M2 H' ∧ F2 z0 = none ∧ M2 z0 = none ∧ H' z0 = some (.lst accV) ∧ RepL X.K F2 accV acc ∧ vComp2 we wt t wi1 wt1 t1 ρ (ds.drop i) acc M2 Qf
  refine ⟨fun i mm H' => mm = ds.length - i ∧ i ≤ ds.length ∧ St2 H' i, ⟨ds.length, by simp, Nat.zero_le _, F1, M1, [], [], st1.sat.newH hD _, fD, mD, upd_same, .nil, hw⟩, ?_⟩
  rintro i mm H2 ⟨rfl, hi2, F2, M2, accV, acc, st2, fD2, mD2, hD2, ra, hw2⟩
  by_cases hlt : i < ds.length
  · refine .inr ⟨wk.go i H2 (st2.ff.trans st2.fh) hlt, fun H' => St2 H' (i + 1), fun H' n => ⟨ds.length - (i + 1), by omega, rfl, hlt, n⟩, fun x H3 y => ?_⟩
    have hd : ds[i]? = some ds[i] := List.getElem?_eq_getElem hlt
    obtain ⟨F3, st3, rx⟩ := wk.yld i ds[i] H2 x H3 F2 M2 st2.ff st2.sat hd y
    rw [List.drop_eq_getElem_cons hlt] at hw2
    obtain ⟨ρ', hb, hw3⟩ := hw2
    have stA := st2.trans st3
    have nD2 : H2 z0 ≠ none := by rw [hD2]; simp
    have fD3 : F3 z0 = none := st3.newF z0 nD2 mD2 fD2
    have hD3 : H3 z0 = some (.lst accV) := st3.keep z0 _ hD2 mD2
    refine ⟨F3, ds[i], wipeR ρ (slotsT t ++ slotsT t1), ρ', st3.fh, rx, (re.mono (st1.ff.trans stA.ff)).wipe _, hb, fun σ2 re2 w2 => ⟨?_, ?_⟩⟩
    · rw [w2 (slotsT t ++ slotsT t1) fun j hj => List.mem_append_left _ hj]
      exact wipe_idem _
    · refine ⟨F3, M2, ρ', _, noX, st3.sat, re2, hw3, fun b M4 hb4 F4 H4 st4 => ?_, px0⟩
      have nD3 : H3 z0 ≠ none := by rw [hD3]; simp
      have fD4 : F4 z0 = none := st4.newF z0 nD3 mD2 fD3
      have mD4 : M4 z0 = none := st4.newM z0 nD3 mD2
      have hD4 : H4 z0 = some (.lst accV) := st4.keep z0 _ hD3 mD2
      have stB := stA.trans st4
      cases b with
      | false => exact iteF ⟨F4, M4, accV, acc, stB, fD4, mD4, hD4, ra.mono (st3.ff.trans st4.ff), by simpa using hb4⟩
      | true =>
        have hb5 : wi1 ρ' M4 (fun es M2 => acc.length + es.length ≤ 16777216 ∧ vComp we wt1 t1 ρ' es acc M2 (fun acc M3 => vComp2 we wt t wi1 wt1 t1 ρ (ds.drop (i + 1)) acc M3 Qf)) noX := by simpa using hb4
        refine iteT ⟨F4, M4, ρ', _, noX, st4.sat, re2.mono st4.ff, hb5, fun ds1 M5 h5 F5 H5 J1 st5 wk1 => ?_, px0⟩
        obtain ⟨hz1, hw5⟩ := h5
        have nD4 : H4 z0 ≠ none := by rw [hD4]; simp
        have fD5 : F5 z0 = none := st5.newF z0 nD4 mD4 fD4
        have mD5 : M5 z0 = none := st5.newM z0 nD4 mD4
        have hD5 : H5 z0 = some (.lst accV) := st5.keep z0 _ hD4 mD4
        have stC := stB.trans st5
        let St3 : Hp → Nat → Prop := fun H' j => ∃ F6 M6 accV acc, Step X.K F1 M1 H1 F6 M6 H' ∧ Ex F5 F6 ∧ F6 z0 = none ∧ M6 z0 = none ∧ H' z0 = some (.lst accV) ∧ RepL X.K F6 accV acc ∧ acc.length + (ds1.length - j) ≤ 16777216 ∧
          vComp we wt1 t1 ρ' (ds1.drop j) acc M6 (fun acc M3 => vComp2 we wt t wi1 wt1 t1 ρ (ds.drop (i + 1)) acc M3 Qf)
        refine ⟨fun j k H' => k = ds1.length - j ∧ j ≤ ds1.length ∧ St3 H' j, ⟨ds1.length, by simp, Nat.zero_le _, F5, M5, accV, acc, stC, Ex.refl _, fD5, mD5, hD5, ra.mono ((st3.ff.trans st4.ff).trans st5.ff), by simpa using hz1, hw5⟩, ?_⟩
        rintro j k H6 ⟨rfl, hj2, F6, M6, accV6, acc6, st6, ex6, fD6, mD6, hD6, ra6, hl6, hw6⟩
        by_cases hlt1 : j < ds1.length
        · refine .inr ⟨wk1.go j H6 (ex6.trans st6.fh) hlt1, fun H' => St3 H' (j + 1), fun H' n => ⟨ds1.length - (j + 1), by omega, rfl, hlt1, n⟩, fun x1 H7 y1 => ?_⟩
          have hd1 : ds1[j]? = some ds1[j] := List.getElem?_eq_getElem hlt1
          obtain ⟨F7, st7, rx1⟩ := wk1.yld j ds1[j] H6 x1 H7 F6 M6 ex6 st6.sat hd1 y1
          rw [List.drop_eq_getElem_cons hlt1] at hw6
          obtain ⟨ρ2, hb2, hw7⟩ := hw6
          have nD6 : H6 z0 ≠ none := by rw [hD6]; simp
          have fD7 : F7 z0 = none := st7.newF z0 nD6 mD6 fD6
          have hD7 : H7 z0 = some (.lst accV6) := st7.keep z0 _ hD6 mD6
          have stD := st6.trans st7
          have re7 : RepE X.K F7 σ2 ρ' := re2.mono (((st4.ff.trans st5.ff).trans ex6).trans st7.ff)
          refine ⟨F7, ds1[j], wipeR ρ' (slotsT t1), ρ2, st7.fh, rx1, re7.wipe _, hb2, fun σ3 re3 w3 => ⟨?_, ?_⟩⟩
          · rw [w3 (slotsT t1) fun j hj => hj]
            exact wipe_idem _
          · refine ⟨F7, M6, ρ2, _, noX, st7.sat, re3, hw7, fun b M8 hb8 F8 H8 st8 => ?_, px0⟩
            have nD7 : H7 z0 ≠ none := by rw [hD7]; simp
            have fD8 : F8 z0 = none := st8.newF z0 nD7 mD6 fD7
            have mD8 : M8 z0 = none := st8.newM z0 nD7 mD6
            have hD8 : H8 z0 = some (.lst accV6) := st8.keep z0 _ hD7 mD6
            have stE := stD.trans st8
            cases b with
            | false => exact iteF ⟨F8, M8, accV6, acc6, stE, (ex6.trans st7.ff).trans st8.ff, fD8, mD8, hD8, ra6.mono (st7.ff.trans st8.ff), by omega, by simpa using hb8⟩
            | true =>
              refine iteT ⟨F8, M8, ρ2, _, noX, st8.sat, re3.mono st8.ff, by simpa using hb8, fun y M9 hw9 F9 H9 yv st9 ry => ?_, px0⟩
              have nD8 : H8 z0 ≠ none := by rw [hD8]; simp
              have fD9 : F9 z0 = none := st9.newF z0 nD8 mD8 fD8
              have mD9 : M9 z0 = none := st9.newM z0 nD8 mD8
              have hD9 : H9 z0 = some (.lst accV6) := st9.keep z0 _ hD8 mD8
              have ra9 := ra6.mono ((st7.ff.trans st8.ff).trans st9.ff)
              refine ⟨accV6, hD9, ?_, F9, M9, accV6 ++ [yv], acc6 ++ [y], (stE.trans st9).poke hD fD9 mD9, ((ex6.trans st7.ff).trans st8.ff).trans st9.ff, fD9, mD9, upd_same, ra9.append (.cons ry .nil), by rw [List.length_append]; show acc6.length + 1 + _ ≤ _; omega, hw9⟩
              rw [ra6.length, sizeLine_eq]; omega
        · have e : j = ds1.length := by omega
          subst e
          rw [List.drop_length] at hw6
          exact .inl ⟨wk1.stop H6 (ex6.trans st6.fh), F6, M6, accV6, acc6, st6, fD6, mD6, hD6, ra6, hw6⟩
  · have e : i = ds.length := by omega
    subst e
    rw [List.drop_length] at hw2
    refine .inl ⟨wk.stop H2 (st2.ff.trans st2.fh), ?_⟩
    have hw3 : (if m = true then ∀ p, M2 p = none → Q' (.ref p) (updM M2 p (.lst acc)) else Q' (.lst acc) M2) := hw2
    cases m with
    | true =>
      have hw4 : ∀ p, M2 p = none → Q' (.ref p) (updM M2 p (.lst acc)) := by simpa using hw3
      exact (pv.step st1) _ _ (hw4 z0 mD2) F2 H2 _ (st2.adoptM hD fD2 (mo := .lst acc) hD2 ⟨accV, rfl, ra⟩) (.ref z0)
    | false =>
      have hw4 : Q' (.lst acc) M2 := by simpa using hw3
      exact (pv.step st1) _ _ hw4 _ H2 _ (st2.adopt hD fD2 mD2 hD2) (.lst (SqL.of upd_same) (ra.mono ((Ex.refl F2).new fD2)))
end Vp
namespace Vp
open PySem PySem.Spec PyProof.Rows

/-! ### a generator expression of tests, by what stands at each turn -/
abbrev noE : Value → Shared → Prop := fun _ _ => False
/-- the turns of all(..): J i stands where i items were true, JF behind one that was not, JE behind the last -/
structure Turns (prog : Program) (w : World) (cenv : Env) (x : Str) (px : Pos) (elt : Expr) (I a : Addr) (g n : Nat) (Ok : Around → Prop) (J : Nat → Shared → Prop) (JF JE : Shared → Prop) : Prop where
  item : ∀ (A' : Around) (i : Nat) (s : Shared), Ok A' → i < n → J i s →
    wpAny (model prog w) A' (pyNext (.ref I)) (fun u s1 => ∃ v, u = some v ∧ wpAny (model prog w) A' (letOwnedTupleGo (.Name x px) (.ref I) v) (fun _ s1 => wpAny (model prog w) A' (assign (.Name x px) cenv v) (fun _ s2 => wpAny (model prog w) A' (eval elt cenv) (fun y s3 => ∃ b, y = .bool b ∧ if b = true then J (i + 1) s3 else JF s3) noE s2) noE s1) noE s1) noE s
  fin : ∀ (A' : Around) (s : Shared), Ok A' → J n s → wpAny (model prog w) A' (pyNext (.ref I)) (fun u s1 => u = none ∧ JE s1) noE s
  self : ∀ (A' : Around) (s : Shared), A'.handled = none → J 0 s → wpAny (model prog w) A' (pyIter (.ref I)) (fun v s1 => v = .ref I ∧ J 0 s1) noE s
  stab : ∀ (i : Nat) (s : Shared) (y : GenState), y.bare = true → J i s → J i (s.setGen g y)
  stabF : ∀ (s : Shared) (y : GenState), y.bare = true → JF s → JF (s.setGen g y)
  ends : ∀ (s : Shared) (h' : Heap), JE s → (∀ b o, s.heap.get? b = some o → h'.get? b = some o) → JE { s.setGen g .finished with heap := h' }
  live : ∀ (i : Nat) (s : Shared), J i s → s.heap.IsGen a g ∧ s.heap.NoLimit
def YJ (n : Nat) (J : Nat → Shared → Prop) (JF : Shared → Prop) : Protocol := fun m _ v s kap => ∃ i b, i < n ∧ i + m = n ∧ v = .bool b ∧ if b = true then J (i + 1) s ∧ ∀ s'', J (i + 1) s'' → kap (.send .none) s'' else JF s
section
variable {prog : Program} {w : World} {A : Around} {cenv : Env} {x : Str} {px : Pos} {elt iter : Expr} {scope : Scope} {pos : Pos} {I a : Addr} {g n : Nat} {J : Nat → Shared → Prop} {JF JE : Shared → Prop} {Ok : Around → Prop}
abbrev RG (JE : Shared → Prop) : GenEnd := fun m _ r s₁ => r = .ok .next ∧ (m = 1 ∧ JE s₁)
theorem seg_turns (o1 : Ok (A.over (.compLoop (.GeneratorExp elt [⟨.Name x px, iter, [], 0⟩] scope pos) 0 (.ref I) .none cenv) [])) (hco : cenv.scope.isCoroutine = false) (t : Turns prog w cenv x px elt I a g n Ok J JF JE) :
    ∀ (k i : Nat) (s₀ s : Shared), n - i = k → i ≤ n → J i s →
      Seg (model prog w) A (RG JE) (YJ n J JF) (n - i + 1) s₀
        (.compLoop (.GeneratorExp elt [⟨.Name x px, iter, [], 0⟩] scope pos) 0 (.ref I) .none cenv)
        ((model prog w).den (.compLoop (.GeneratorExp elt [⟨.Name x px, iter, [], 0⟩] scope pos) 0 (.ref I) .none cenv)) [] s := by
  intro k
  induction k with
  | zero =>
    intro i s₀ s hk hi hJ
    have e : i = n := by omega
    subst e
    rw [Nat.sub_self]
    show Seg _ A _ _ _ s₀ _ ((compTurn (.GeneratorExp elt [⟨.Name x px, iter, [], 0⟩] scope pos) 0 (.ref I) .none cenv).onRaise (leaving cenv)) [] s
    rw [compTurn_gen, Sem.onRaise_eq_wrap]
    refine seg_bind_wrap (wpAny_standAt ?_)
    refine seg_bind_wrap (wpAny_mono (t.fin _ s o1 hJ) (fun u s1 q => ?_) fun _ _ z => z.elim)
    obtain ⟨rfl, q⟩ := q
    exact seg_end (.ok .next) ⟨rfl, rfl, q⟩
  | succ k ih =>
    intro i s₀ s hk hi hJ
    have hlt : i < n := by omega
    obtain ⟨m, hm⟩ : ∃ m, n - i = m + 1 := ⟨n - i - 1, by omega⟩
    rw [hm]
    show Seg _ A _ _ _ s₀ _ ((compTurn (.GeneratorExp elt [⟨.Name x px, iter, [], 0⟩] scope pos) 0 (.ref I) .none cenv).onRaise (leaving cenv)) [] s
    rw [compTurn_gen, Sem.onRaise_eq_wrap]
    refine seg_bind_wrap (wpAny_standAt ?_)
    refine seg_bind_wrap (wpAny_mono (t.item _ i s o1 hlt hJ) (fun u s1 q => ?_) fun _ _ z => z.elim)
    obtain ⟨v, rfl, q⟩ := q
    refine seg_bind_wrap (wpAny_mono q (fun _ s1 q => ?_) fun _ _ z => z.elim)
    refine seg_bind_wrap (wpAny_mono q (fun _ s2 q => ?_) fun _ _ z => z.elim)
    have hy : ∀ v, yieldOut cenv v = yieldValue v := fun v => by simp only [yieldOut, hco, Bool.false_eq_true, if_false]
    simp only [List.forIn_nil]
    refine seg_bind_wrap (wpAny_pure ?_)
    simp only [if_true]
    simp only [hy]
    rw [Sem.bind_eq_wrap', Sem.bind_eq_wrap', Sem.wrap_wrap, Sem.wrap_wrap]
    refine seg_wrap (wpAny_mono q (fun y s3 q => ?_) fun _ _ z => z.elim)
    obtain ⟨b, rfl, q⟩ := q
    cases b with
    | false => exact seg_at (seg_yield rfl rfl rfl ⟨i, false, hlt, by omega, rfl, by simpa using q⟩)
    | true =>
      have q : J (i + 1) s3 := by simpa using q
      refine seg_at (seg_yield rfl rfl rfl ⟨i, true, hlt, by omega, rfl, ?_⟩)
      rw [if_pos rfl]
      refine ⟨q, fun s'' q2 => ?_⟩
      have e : n - (i + 1) + 1 = m + 1 := by omega
      have z := ih (i + 1) s'' s'' (by omega) hlt q2
      rw [e] at z
      exact seg_again rfl z
theorem seg_turns0 (hh : A.handled = none) (o2 : Ok (A.over (.compLoop (.GeneratorExp elt [⟨.Name x px, iter, [], 0⟩] scope pos) 0 (.ref I) .none cenv) [])) (hco : cenv.scope.isCoroutine = false) (t : Turns prog w cenv x px elt I a g n Ok J JF JE) (s₀ s : Shared) (hJ : J 0 s) :
    Seg (model prog w) A (RG JE) (YJ n J JF) (n + 1) s₀
      (.compStart (.GeneratorExp elt [⟨.Name x px, iter, [], 0⟩] scope pos) 0 (.ref I) .none cenv)
      ((model prog w).den (.compStart (.GeneratorExp elt [⟨.Name x px, iter, [], 0⟩] scope pos) 0 (.ref I) .none cenv)) [] s := by
  have o1 : (A.over (.compStart (.GeneratorExp elt [⟨.Name x px, iter, [], 0⟩] scope pos) 0 (.ref I) .none cenv) []).handled = none := hh
  have loop := fun (s : Shared) (hJ : J 0 s) => seg_turns (iter := iter) (scope := scope) (pos := pos) o2 hco t n 0 s₀ s (Nat.sub_zero _) (Nat.zero_le _) hJ
  show Seg _ A _ _ _ s₀ _ ((compStart (.GeneratorExp elt [⟨.Name x px, iter, [], 0⟩] scope pos) 0 (.ref I) .none cenv).onRaise (leaving cenv)) [] s
  unfold compStart
  rw [Sem.onRaise_eq_wrap]
  show Seg _ A _ _ _ s₀ _ ((ask >>= _).wrap _ _ _ _) [] s
  refine seg_bind_wrap (wpAny_askSetting ?_)
  split
  · exact seg_again rfl (loop s hJ)
  · have fin := fun (Q : Value → Shared → Prop) (E : Value → Shared → Prop) (h : ∀ s1, J 0 s1 → Q (.ref I) s1) => wpAny_mono (E' := E) (t.self _ s o1 hJ) (fun v s1 (q : v = .ref I ∧ J 0 s1) => by rw [q.1]; exact h s1 q.2) fun _ _ z => z.elim
    first
      | exact seg_bind_wrap (wpAny_rule (seg_bind_wrap (wpAny_standAt (seg_bind_wrap (fin _ _ fun s1 q => seg_again rfl (loop s1 q))))))
      | (refine seg_bind_wrap (wpAny_rule ?_); show Seg _ A _ _ _ s₀ _ ((standAt iter.pos >>= _).wrap _ _ _ _) [] s; exact seg_bind_wrap (wpAny_standAt (seg_bind_wrap (fin _ _ fun s1 q => seg_again rfl (loop s1 q)))))
/-- the generator at a, number g, where i items were true -/
def GJ (prog : Program) (w : World) (A : Around) (g n : Nat) (J : Nat → Shared → Prop) (JF JE : Shared → Prop) (i : Nat) (s : Shared) : Prop :=
  J i s ∧ ∃ gs, s.gens[g]? = some gs ∧ ∀ s'' : Shared, J i s'' → gs.Goes (model prog w) A.in1 (RG JE) (YJ n J JF) (n - i + 1) (.send .none) s''
theorem gj_fresh {s : Shared} (hh : A.handled = none) (o2 : Ok (A.in1.over (.compLoop (.GeneratorExp elt [⟨.Name x px, iter, [], 0⟩] scope pos) 0 (.ref I) .none cenv) [])) (hco : cenv.scope.isCoroutine = false) (t : Turns prog w cenv x px elt I a g n Ok J JF JE)
    (hgs : s.gens[g]? = some (.fresh (.compStart (.GeneratorExp elt [⟨.Name x px, iter, [], 0⟩] scope pos) 0 (.ref I) .none cenv))) (hJ : J 0 s) : GJ prog w A g n J JF JE 0 s :=
  ⟨hJ, _, hgs, fun s'' q => ⟨rfl, seg_turns0 (A := A.in1) hh o2 hco t s'' s'' q⟩⟩
theorem next_item (hh : A.handled = none) (hroom : A.depth < recursionLimit) (t : Turns prog w cenv x px elt I a g n Ok J JF JE) {j : Nat} {s : Shared} (hj : j < n) (h : GJ prog w A g n J JF JE j s) :
    wpAny (model prog w) A (pyNext (.ref a)) (fun u s' => ∃ b, u = some (.bool b) ∧ if b = true then GJ prog w A g n J JF JE (j + 1) s' else JF s') noE s := by
  obtain ⟨hJ, gs, hgs, hgo⟩ := h
  obtain ⟨h1, h2⟩ := t.live j s hJ
  obtain ⟨m, hm⟩ : ∃ m, n - j = m + 1 := ⟨n - j - 1, by omega⟩
  rw [hm] at hgo
  have hlt : g < s.gens.size := (Array.getElem?_eq_some_iff.mp hgs).1
  refine GenW.wpAny_gsz (n := g + 1) hlt ?_
  refine wpAny_pyNext_genexpQ (P := fun m s₀ s₁ => m = 1 ∧ JE s₁) hh h2 hroom h1 hgs (hgo _ (t.stab j s .running rfl hJ)) (fun v s₁ gs' hb hv hsz => ?_) (fun s₁ hp h' hk => ?_)
  · obtain ⟨i, b, _, hi, rfl, hv⟩ := hv
    have hij : i = j := by omega
    subst hij
    refine ⟨b, rfl, ?_⟩
    cases b with
    | false =>
      rw [if_neg Bool.false_ne_true] at hv ⊢
      exact t.stabF s₁ gs' hb hv
    | true =>
      rw [if_pos rfl] at hv ⊢
      obtain ⟨hJ1, hkap⟩ := hv
      refine ⟨t.stab _ s₁ gs' hb hJ1, gs', ?_, fun s'' q => ?_⟩
      · have hlt : g < s₁.gens.size := by rw [GenW.setGen_size] at hsz; exact hsz
        simp [Shared.setGen, hlt]
      · have e : n - (i + 1) + 1 = m + 1 := by omega
        rw [e]
        exact hkap s'' q
  · exact absurd hp.1 (by omega)
theorem next_done (hh : A.handled = none) (hroom : A.depth < recursionLimit) (t : Turns prog w cenv x px elt I a g n Ok J JF JE) {s : Shared} (h : GJ prog w A g n J JF JE n s) :
    wpAny (model prog w) A (pyNext (.ref a)) (fun u s' => u = none ∧ JE s') noE s := by
  obtain ⟨hJ, gs, hgs, hgo⟩ := h
  obtain ⟨h1, h2⟩ := t.live n s hJ
  rw [Nat.sub_self] at hgo
  refine wpAny_pyNext_genexpQ (P := fun m s₀ s₁ => m = 1 ∧ JE s₁) hh h2 hroom h1 hgs (hgo _ (t.stab n s .running rfl hJ)) (fun v s₁ gs' hb hv => ?_) (fun s₁ hp h' hk => ?_)
  · obtain ⟨i, b, hi, hi2, _⟩ := hv
    exact absurd hi2 (by omega)
  · exact ⟨rfl, t.ends s₁ h' hp.2 hk⟩
/-- all(..) over it -/
theorem all_loopJ {R : Result → Shared → Prop} (hh : A.handled = none) (hroom : A.depth < recursionLimit) (t : Turns prog w cenv x px elt I a g n Ok J JF JE)
    (hE : ∀ s, JE s → R (.ok (.ret (.bool true))) s) (hS : ∀ s, JF s → R (.ok (.ret (.bool false))) s) :
    ∀ (k j : Nat) (s : Shared), n - j = k → j ≤ n → GJ prog w A.in1 g n J JF JE j s → codeAny (model prog w) A (.builtin "all.loop" ⟨[.ref a], []⟩) R s := by
  intro k
  induction k with
  | zero =>
    intro j s hk hj h
    have e : j = n := by omega
    subst e
    refine codeAny_builtin PySem.F.entry_all_loop ?_
    rw [Around.under_plainId PySem.F.plain_all_loop _]
    show wpAny _ A.in1 (pyNext (.ref a) >>= _) _ _ s
    refine wpAny_bind (wpAny_mono (next_done (A := A.in1) hh hroom t h) (fun u s1 q => ?_) fun _ _ z => z.elim)
    obtain ⟨rfl, q⟩ := q
    exact wpAny_bind (wpAny_rule (wpAny_pure (hE s1 q)))
  | succ k ih =>
    intro j s hk hj h
    have hlt : j < n := by omega
    refine codeAny_builtin PySem.F.entry_all_loop ?_
    rw [Around.under_plainId PySem.F.plain_all_loop _]
    show wpAny _ A.in1 (pyNext (.ref a) >>= _) _ _ s
    refine wpAny_bind (wpAny_mono (next_item (A := A.in1) hh hroom t hlt h) (fun u s1 q => ?_) fun _ _ z => z.elim)
    obtain ⟨b, rfl, q⟩ := q
    refine wpAny_bind (wpAny_holding (wpAny_truthy_bool ?_))
    refine wpAny_bind (wpAny_letGo ?_)
    cases b with
    | true =>
      simp only [if_true] at q ⊢
      exact wpAny_pure ⟨plainId_quiet PySem.F.plain_all_loop _, ih (j + 1) _ (by omega) hlt q⟩
    | false =>
      simp only [Bool.false_eq_true, if_false] at q ⊢
      first
        | exact wpAny_pure (hS s1 q)
        | exact wpAny_bind (wpAny_rule (wpAny_pure (hS s1 q)))
        | exact wpAny_rule (wpAny_pure (hS s1 q))
/-- all(g), g the generator at a -/
theorem call_allJ {E : Value → Shared → Prop} {Q : Value → Shared → Prop} {s : Shared} (hh : A.handled = none) (hroom : A.depth < recursionLimit) (t : Turns prog w cenv x px elt I a g n Ok J JF JE) (h : GJ prog w A.in1 g n J JF JE 0 s)
    (hE : ∀ s, JE s → Q (.bool true) s) (hS : ∀ s, JF s → Q (.bool false) s) : wpAny (model prog w) A (call (.builtin "all") [.ref a]) Q E s := by
  refine call_function_tree PySem.F.kind_all PySem.F.plain_all PySem.F.entry_all (PySem.F.args_all1 _) ?_
  unfold Builtin.«all»
  refine wpAny_bind (m := oneArg "all" _) (wpAny_pure ?_)
  refine wpAny_bind (wpAny_pyIter_gen (t.live 0 s h.1).1 ?_)
  exact wpAny_pure ⟨plainId_quiet PySem.F.plain_all_loop _, all_loopJ hh hroom t (fun s q => hE s q) (fun s q => hS s q) n 0 s rfl (Nat.zero_le _) h⟩
end
end Vp
namespace Vp
open PySem PySem.Spec PyProof.Rows L2

/-! ### the frame of a generator expression -/
/-- the context of its code, in the around A': what starts at s -/
abbrev genCx (X : Cx) (s : Shared) (H : Hp) (A' : Around) (env : Env) (fp : List Addr) : Cx := { X with A := A', s_0 := s, H_0 := H, env := env, outer := X.stack, stack := env :: X.stack, ex := fp, fn := fun _ => false, pn := [], xe := fun _ _ => False }
structure GenEnvOk (X : Cx) (scope : Scope) (C : Addr) (env : Env) : Prop where
  sc : env.scope = scope
  loc : env.locals = C
  glob : env.globals = X.env.globals
  blt : env.builtins = X.env.builtins
  cells : env.cells = cloFrom X.env.cells scope.names []
  frame : env.frame = some C
section
variable {X : Cx} {pins : List (Addr × Obj)} {σ : L2.St} {H : Hp} {s : Shared}
theorem gen_start {scope : Scope} {own : List (Str × Nat)} {fp : List Addr} {env : Env} {A' : Around} {h' : Heap} {g' : Array GenState} {t' : Nat} {m0 : Str → Option Value} {a : Addr} {og : Obj}
    (I : Inv X pins σ H s) (ok : BlkOk X.N X.env.scope scope own) (hN : X.N.Nodup) (hcell : ∀ y ∈ scope.names, y.2 ≠ .cell) (hfp : ∀ b ∈ fp, FpOk X pins H b ∧ b < s.heap.objs.size) (ge : GenEnvOk X scope s.heap.objs.size env)
    (hA : A'.handled = none) (hF : A'.frames = some (env :: X.stack)) (kp : ∀ b o, s.heap.get? b = some o → h'.get? b = some o) (hns : h'.Ns s.heap.objs.size m0) (hg : AllBare g')
    (ha : s.heap.objs.size < a) (hao : h'.get? a = some og) (hac : ∀ v, og.data ≠ .cell v) :
    Inv (genCx X s H A' env fp) [(a, og)] (L2.wipe σ (own.map (·.2))) H { s with heap := h', gens := g', toks := t' } := by
  have hfree : ∀ y ∈ scope.names, y.2 = .free → ∃ c, X.env.cells.lookup y.1 = some c := fun y hy e => by
    rcases ok.free y hy e with z | z
    · exact I.ok.has _ (.inl z)
    · exact I.ok.has _ (.inr z)
  have cm : ∀ {y c}, (y, c) ∈ cloFrom X.env.cells scope.names [] → X.env.cells.lookup y = some c ∧ c < s.heap.objs.size ∧ (y, NameKind.free) ∈ scope.names := fun {y c} hm => by
    rcases cloFrom_mem hm with hm | ⟨h1, rfl⟩
    · cases hm
    · obtain ⟨c, hc⟩ := hfree _ h1 rfl
      rw [hc]
      obtain ⟨w, z⟩ := I.cell _ _ hc
      exact ⟨rfl, z.lt, h1⟩
  have mem : ∀ {y c}, env.cells.lookup y = some c → X.env.cells.lookup y = some c ∧ c < s.heap.objs.size ∧ (y, NameKind.free) ∈ scope.names := fun {y c} e => by
    rw [ge.cells] at e
    exact cm (PySem.mem_of_lookup e)
  have look : ∀ {y}, scope.names.lookup y = some .free → ∃ c, env.cells.lookup y = some c ∧ X.env.cells.lookup y = some c := fun {y} hl => by
    have hy : (y, NameKind.free) ∈ scope.names := PySem.mem_of_lookup hl
    obtain ⟨c', e'⟩ := mem_lookup (cloFrom_has (cells := X.env.cells) (acc := []) hy)
    refine ⟨c', by rw [ge.cells]; exact e', ?_⟩
    exact (cm (PySem.mem_of_lookup e')).1
  have okG : (genCx X s H A' env fp).Ok := {
    mod := I.ok.mod
    kind := by show env.scope.kind = _; rw [ge.sc]; exact ok.kind
    glob := ge.glob.trans I.ok.glob
    blt := ge.blt.trans I.ok.blt
    above := by show s.heap.objs.size ≤ env.locals; rw [ge.loc]; exact Nat.le_refl _
    inj := fun y z c e1 e2 => I.ok.inj y z c (mem e1).1 (mem e2).1
    has := fun y hy => by
      have hk : scope.names.lookup y = some .cell ∨ scope.names.lookup y = some .free := by
        have q : env.kindOf y = scope.names.lookup y := by unfold Env.kindOf; rw [ge.sc]
        rcases hy with z | z
        · left; rw [← q]; exact z
        · right; rw [← q]; exact z
      rcases hk with z | z
      · exact absurd rfl (hcell _ (PySem.mem_of_lookup z))
      · obtain ⟨c, h1, _⟩ := look z
        exact ⟨c, h1⟩
    cab := fun y c z _ => by cases z
    hd := fun _ => hA
    frames := hF
    stk := .inr ⟨rfl, by show env.frame = some env.locals; rw [ge.frame, ge.loc]⟩
    exf := fun b hb => ⟨by show b ≠ env.locals; rw [ge.loc]; exact Nat.ne_of_lt (hfp b hb).2, fun y c e z => (hfp b hb).1.2.2.2.2.1 y c (mem e).1 z⟩
    bs := I.bs
    bsz := Nat.le_trans I.ok.bsz I.sz
    noex := fun b o e hb => by
      rcases (hfp b hb).1.2.2.2.1 with z | z
      · exact I.ok.noex b o e z
      · exact absurd (Nat.lt_of_lt_of_le (Heap.lt_size e) (Nat.le_trans I.ok.bsz z)) (Nat.lt_irrefl _)
    exfs := fun b hb z => by
      rcases List.mem_cons.mp (I.stkSub b z) with z | z
      · exact (hfp b hb).1.2.1 z
      · exact (hfp b hb).1.2.2.1 z
    funs := I.stack
    frf := I.stkFree }
  refine ⟨okG, rfl, hg, Un.kept kp, ⟨m0, ?_, fun i y av e1 e2 e3 => ?_⟩, fun y c e => ?_, ?_, fun y c e => ?_, fun p hp => ?_, I.hok.kept kp, by rw [wipe_length]; exact I.len⟩
  · show Heap.Ns _ env.locals _
    rw [ge.loc]; exact hns
  · obtain ⟨e2, hne⟩ := wipe_some e2
    have e3 : scope.names.lookup y = some .local ∨ scope.names.lookup y = some .cell ∨ scope.names.lookup y = some .free := by
      have z : Vis env.scope y := e3
      rw [ge.sc] at z
      exact z
    have no : ∀ k, scope.names.lookup y = some k → ¬ (k = .local ∨ k = .cell) := fun k e hh => by
      rcases ok.own _ (PySem.mem_of_lookup e) hh with e' | e'
      · obtain ⟨p, hp, hpy⟩ := List.mem_map.mp e'
        have e4 := ok.ix p hp
        have : p.1 = y := hpy
        rw [this] at e4
        exact hne (List.mem_map.mpr ⟨p, hp, nodup_ix hN e4 e1⟩)
      · exact e' (List.mem_of_getElem? e1)
    have hfr : scope.names.lookup y = some .free := by
      rcases e3 with z | z | z
      · exact absurd (.inl rfl) (no _ z)
      · exact absurd (.inr rfl) (no _ z)
      · exact z
    obtain ⟨m, hn, hl⟩ := I.loc
    have hvis : Vis X.env.scope y := (ok.free _ (PySem.mem_of_lookup hfr) rfl).elim (fun k => .inr (.inl k)) (fun k => .inr (.inr k))
    obtain ⟨w, r, q⟩ := hl i y av e1 e2 hvis
    obtain ⟨c, h1, h2⟩ := look hfr
    refine ⟨w, r, .inr ⟨.inr (by show env.scope.names.lookup y = _; rw [ge.sc]; exact hfr), c, h1, ?_⟩⟩
    rcases q with ⟨k, _⟩ | ⟨_, c', e', z⟩
    · have k : X.env.scope.names.lookup y = some .local := k
      rcases ok.free _ (PySem.mem_of_lookup hfr) rfl with k' | k' <;> rw [show X.env.scope.names.lookup y = _ from k'] at k <;> cases k
    · rw [h2] at e'; cases e'
      exact z.keeps kp
  · obtain ⟨h1, _, _⟩ := mem e
    obtain ⟨w, z⟩ := I.cell _ _ h1
    exact ⟨w, z.keeps kp⟩
  · show H env.locals = none
    rw [ge.loc]; exact I.hok.fresh (Nat.le_refl _)
  · exact I.freeC _ _ (mem e).1
  · have hp' : p = (a, og) := by simpa using hp
    subst hp'
    refine ⟨hao, I.hok.fresh (Nat.le_of_lt ha), by show a ≠ env.locals; rw [ge.loc]; exact Nat.ne_of_gt ha, fun hb => ?_, hac⟩
    have fa := I.fpOk (Nat.le_of_lt ha) (I.hok.fresh (Nat.le_of_lt ha))
    rcases List.mem_cons.mp (I.stkSub a hb) with z | z
    · exact fa.2.1 z
    · exact fa.2.2.1 z
end
end Vp
namespace Vp
open PySem PySem.Spec PyProof.Rows L2

/-! ### the turns of a generator expression, from its iterable's and its element's promises -/
section
variable {X : Cx} {pins : List (Addr × Obj)} {σ : L2.St} {H : Hp} {s : Shared}
theorem inv_gens {σ : L2.St} {H : Hp} {s : Shared} {g' : Array GenState} (I : Inv X pins σ H s) (hg : AllBare g') : Inv X pins σ H { s with gens := g' } :=
  ⟨I.ok, I.os, hg, I.base, I.loc, I.cell, I.free, I.freeC, I.pin, I.hok, I.len⟩
theorem bare_set {gs : Array GenState} {g : Nat} {y : GenState} (h : AllBare gs) (hy : y.bare = true) : AllBare (gs.setIfInBounds g y) := fun z hz => by
  rcases Array.mem_or_eq_of_mem_setIfInBounds hz with q | q
  · exact h z q
  · rw [q]; exact hy
theorem inv_setGen {σ : L2.St} {H : Hp} {s : Shared} {g : Nat} {y : GenState} (I : Inv X pins σ H s) (hy : y.bare = true) : Inv X pins σ H (s.setGen g y) :=
  inv_gens I (bare_set I.bare hy)
theorem inv_around {A1 A2 : Around} {env : Env} {fp : List Addr} {ps : List (Addr × Obj)} {σ' : L2.St} {H' : Hp} {s' : Shared} (I : Inv (genCx X s H A1 env fp) ps σ' H' s') (h1 : A2.handled = none) (h2 : A2.frames = some (env :: X.stack)) :
    Inv (genCx X s H A2 env fp) ps σ' H' s' :=
  ⟨⟨I.ok.mod, I.ok.kind, I.ok.glob, I.ok.blt, I.ok.above, I.ok.inj, I.ok.has, I.ok.cab, fun _ => h1, h2, I.ok.stk, I.ok.exf, I.ok.bs, I.ok.bsz, I.ok.noex, I.ok.exfs, I.ok.funs, I.ok.frf⟩, I.os, I.bare, I.base, I.loc, I.cell, I.free, I.freeC, I.pin, I.hok, I.len⟩
/-- where the generator's code runs -/
def GenOk (X : Cx) (env : Env) (R : Around → Prop) (A' : Around) : Prop := A'.handled = none ∧ A'.frames = some (env :: X.stack) ∧ R A'
theorem gen_turns {env : Env} {fp : List Addr} {a it : Addr} {og : Obj} {g n : Nat} {tn : Nat → Heap → Prop} {J : It} {x : Str} {px : Pos} {elt : Expr} {gg : TG} {te : TE} {vs : List Nat} {R : Around → Prop} {W : Nat → Hp → Prop} {QE QF : Hp → Prop}
    (hc : X.calm = true) (I : Inv X pins σ H s) (T : Turn X.prog X.w X.K (.Name x px) J fp it tn) (f : ∀ b ∈ fp, FpOk X pins H b) (haf : a ∉ fp) (hog : ∀ h : Heap, h.get? a = some og → h.IsGen a g)
    (pg : ∀ A', GenOk X env R A' → PG (genCx X s H A' env fp) (.Name x px) gg) (pe : ∀ A', GenOk X env R A' → PE (genCx X s H A' env fp) elt te)
    (hW : ∀ i H', i < n → W i H' → J.go i H' ∧ ∀ y H2, J.yld i H' y H2 → gg y (L2.wipe σ vs) H2 fun σ3 H3 => L2.wipe σ3 vs = L2.wipe σ vs ∧ te σ3 H3 fun z H4 => ∃ b, z = .bl b ∧ if b = true then W (i + 1) H4 else QF H4)
    (hE : ∀ H', W n H' → J.stop n H' ∧ QE H') :
    Turns X.prog X.w env x px elt it a g n (GenOk X env R)
      (fun i s' => ∃ A' H', Inv (genCx X s H A' env fp) [(a, og)] (L2.wipe σ vs) H' s' ∧ tn i s'.heap ∧ (∀ b ∈ fp, H' b = none) ∧ W i H')
      (fun s' => ∃ H', Inv X pins σ H' s' ∧ QF H') (fun s' => ∃ H', Inv X pins σ H' s' ∧ QE H') := by
  have back : ∀ {A' : Around} {ps : List (Addr × Obj)} {σ' : L2.St} {H' : Hp} {s' : Shared}, Inv (genCx X s H A' env fp) ps σ' H' s' → Inv X pins σ H' s' := fun {A' ps σ' H' s'} I' =>
    I.call' (ch := fp) I'.os I'.base I'.hok I'.bare fun b hb => ⟨(f b hb).2.2.2.1, (f b hb).2.1, (f b hb).2.2.2.2.1, (f b hb).2.2.2.2.2⟩
  have stat : ∀ {A' : Around} {σ' : L2.St} {H' : Hp} {s' : Shared}, Inv (genCx X s H A' env fp) [(a, og)] σ' H' s' → (∀ b ∈ fp, H' b = none) → ∀ b ∈ fp, FpOk (genCx X s H A' env fp) [(a, og)] H' b := fun {A' σ' H' s'} I' hn b hb =>
    ⟨hn b hb, (I'.ok.exf b hb).1, I'.ok.exfs b hb, .inl hb, fun x c e => (I'.ok.exf b hb).2 x c e, fun p hp z => by
      have hp : p ∈ [(a, og)] := hp
      rw [List.mem_singleton.mp hp] at z
      exact haf (by rw [show a = b from z]; exact hb)⟩
  refine ⟨fun A' i s1 o hi hJ => ?_, fun A' s1 o hJ => ?_, fun A' s1 hh hJ => ?_, fun i s1 y hy hJ => ?_, fun s1 y hy hJ => ?_, fun s1 h' hJ hk => ?_, fun i s1 hJ => ?_⟩
  · obtain ⟨A1, H1, I1, st, nf, w⟩ := hJ
    have I1 := inv_around I1 o.1 o.2.1
    obtain ⟨go, step⟩ := hW i H1 hi w
    refine thn (T.item (genCx X s H A' env fp) rfl rfl rfl hc i [(a, og)] s1 _ H1 noE I1 (stat I1 nf) st go) fun r s2 ⟨u, hr, h6⟩ => ⟨u, hr, ?_⟩
    refine thn h6 fun _ s3 ⟨y, H2, I2, r2, y2, st2, n2⟩ => ?_
    have I2' := I2.pinned (stat I2 n2) (T.obj _ _ st2)
    refine thn ((pg A' o).run _ s3 _ H2 y u _ I2' r2 (step y H2 y2)) fun _ s4 ⟨σ3, H3, I3, hw3, q3⟩ => ?_
    refine thn ((pe A' o).run _ s4 σ3 H3 _ I3 q3) fun z s5 ⟨zv, H4, I4, r4, b, hzb, q⟩ => ?_
    subst hzb
    refine ⟨b, r4, ?_⟩
    cases b with
    | false =>
      rw [if_neg Bool.false_ne_true] at q ⊢
      exact ⟨H4, back I4, q⟩
    | true =>
      rw [if_pos rfl] at q ⊢
      have pin' : ∀ b ∈ fp, ∀ o, s3.heap.get? b = some o → s5.heap.get? b = some o ∧ H4 b = none := fun b hb o e =>
        let z := I4.pin (b, o) (List.mem_append_right _ (List.mem_append_right _ (mem_pinsAt hb e)))
        ⟨z.1, z.2.1⟩
      have hl : (L2.wipe σ vs).length = σ3.length := by rw [← hw3, wipe_length]
      refine ⟨A', H4, (I4.unpinned).weak hl (fun j v e => ?_), T.keep _ _ _ st2 fun b hb o e => (pin' b hb o e).1, fun b hb => ?_, q⟩
      · rw [← hw3] at e
        exact (wipe_some e).1
      · obtain ⟨o, e, _⟩ := T.obj _ _ st2 b hb
        exact (pin' b hb o e).2
  · obtain ⟨A1, H1, I1, st, nf, w⟩ := hJ
    have I1 := inv_around I1 o.1 o.2.1
    obtain ⟨stop, qq⟩ := hE H1 w
    refine thn (T.done (genCx X s H A' env fp) rfl rfl rfl hc n [(a, og)] s1 _ H1 noE I1 (stat I1 nf) st stop) fun r s2 ⟨hr, I2⟩ => ⟨hr, H1, back I2, qq⟩
  · obtain ⟨A1, H1, I1, st, nf, w⟩ := hJ
    exact T.self A' 0 s1 _ _ st ⟨rfl, A1, H1, I1, st, nf, w⟩
  · obtain ⟨A1, H1, I1, st, nf, w⟩ := hJ
    exact ⟨A1, H1, inv_setGen I1 hy, st, nf, w⟩
  · obtain ⟨H1, I1, q⟩ := hJ
    exact ⟨H1, inv_setGen I1 hy, q⟩
  · obtain ⟨H1, I1, q⟩ := hJ
    exact ⟨H1, inv_setGen (g := g) (I1.kept (t' := s1.toks) hk) rfl, q⟩
  · obtain ⟨A1, H1, I1, st, nf, w⟩ := hJ
    exact ⟨hog _ (I1.pin (a, og) (by simp)).1, I1.nolimit⟩
end
end Vp
namespace Vp
open PySem PySem.Spec PyProof.Rows L2

/-! ### all(test for x in iter) -/
theorem over_frames (A : Around) (elt iter : Expr) (x : Str) (px : Pos) (scope : Scope) (pos : Pos) (I : Addr) (env : Env) (st : List Env) (h : A.frames = some st) : (A.in1.in1.over (.compLoop (.GeneratorExp elt [⟨.Name x px, iter, [], 0⟩] scope pos) 0 (.ref I) .none env) []).frames = some (env :: st) := by
  simp [Around.over, pushEnvs_eq, envsOf, Code.envs, Code.isFrame, Code.env?]
  exact h
theorem over_room {A : Around} {elt iter : Expr} {x : Str} {px : Pos} {scope : Scope} {pos : Pos} {I : Addr} {env : Env} {k : Nat} (r : Room (k + 1) A) : Room k (A.in1.in1.over (.compLoop (.GeneratorExp elt [⟨.Name x px, iter, [], 0⟩] scope pos) 0 (.ref I) .none env) []) :=
  ⟨r.hd, by have := r.dp; show A.depth + 1 + 3 * k + 5 < _; omega, by have := r.un; show A.units + 5 + 16 * k + 200 < _; omega⟩
/-- all(..): the def's table may grow between the iterator's coming and the turns -/
def tAllG (P : Addr) (wi : TI) (gg : TG) (te : TE) (vs : List Nat) : TE := fun σ H Q => wi σ H fun J H1 => GxR.TabG H1 P ∧ ∀ H2, GxR.Tabbed P H1 H2 → ∃ (n : Nat) (W : Nat → Hp → Prop), W 0 H2 ∧
  (∀ i H', i < n → W i H' → J.go i H' ∧ ∀ y H3, J.yld i H' y H3 → gg y (L2.wipe σ vs) H3 fun σ4 H4 => L2.wipe σ4 vs = L2.wipe σ vs ∧ te σ4 H4 fun z H5 => ∃ b, z = .bl b ∧ if b = true then W (i + 1) H5 else Q (.bl false) H5) ∧
  ∀ H', W n H' → J.stop n H' ∧ Q (.bl true) H'
structure GenS0 (scope : Scope) (x : Str) : Prop where
  kind : scope.kind = .function
  co : scope.isCoroutine = false
  cell : ∀ y ∈ scope.names, y.2 ≠ .cell
  dot : scope.names.lookup (".0" : Str) = some NameKind.local
  loc : scope.names.lookup x = some .local
section
variable {X : Cx}
theorem pe_allG {c P : Addr} {elt iter : Expr} {x : Str} {px p pos gpos : Pos} {scope : Scope} {own : List (Str × Nat)} {wi : TI} {gg : TG} {te : TE} {k : Nat}
    (hr : Room (k + 1) X.A) (hc : X.calm = true) (hN : X.N.Nodup) (hg : Gl X "all") (hm : X.mg "all" = none) (hb : bootBuiltins "all" = some (.builtin "all")) (TB : GxR.TabB X.base X.mg c P) (hcode : X.env.code = .ref c)
    (S0 : GenS0 scope x) (ok : BlkOk X.N X.env.scope scope own) (hi : PI X (.Name x px) iter wi)
    (hpg : ∀ (s : Shared) (H : Hp) (A' : Around) (env : Env) (fp : List Addr), env.scope = scope → env.globals = X.env.globals → Room k A' → PG (genCx X s H A' env fp) (.Name x px) gg)
    (hpe : ∀ (s : Shared) (H : Hp) (A' : Around) (env : Env) (fp : List Addr), env.scope = scope → env.globals = X.env.globals → env.cells = cloFrom X.env.cells scope.names [] → Room k A' → PE (genCx X s H A' env fp) elt te)
    (hs : ∀ v, genFold iter X.env v = pure v)
    (he : starEach [.GeneratorExp elt [⟨.Name x px, iter, [], 0⟩] scope gpos] X.env = (false, eval (.GeneratorExp elt [⟨.Name x px, iter, [], 0⟩] scope gpos) X.env) :: starEach [] X.env := by rfl) :
    PE X (.Call (.Name "all" p) [.GeneratorExp elt [⟨.Name x px, iter, [], 0⟩] scope gpos] [] pos) (tAllG P wi gg te (own.map (·.2))) := by
  refine ⟨fun pins s σ H Q I h => ?_⟩
  have S : GxR.GenS X.env scope x := ⟨S0.kind, S0.co, S0.cell, S0.dot, S0.loc, fun y hy e => (ok.free y hy e).elim (fun k => I.ok.has _ (.inl k)) fun k => I.ok.has _ (.inr k)⟩
  refine wpAny_Call_Name_kw (ld_blt I hg hm hb ?_)
  refine PyProof.Rows.callWith_builtin1 ?_ he (by rfl)
  rw [he]
  show wpAny _ _ (spliced ((false, eval (.GeneratorExp elt [⟨.Name x px, iter, [], 0⟩] scope gpos) X.env) :: backTo pos (starEach [] X.env))) _ _ s
  refine Calls.spliced_cons ?_
  refine wpAny_GeneratorExp_make S.co (closure_ok S.free) S.cell S.dot S.kind (by have := hr.dp; omega) ?_ hs
  refine thn (hi.run pins s σ H _ I h) fun xv s1 hx => thn hx fun itv s2 h2 => ?_
  obtain ⟨it, fp, tn, J, H2, e, I2, T, st2, f2, q⟩ := h2
  subst e
  obtain ⟨⟨ps, hP, ht⟩, q⟩ := q
  refine ⟨I2.nolimit, ?_⟩
  have hPs : s2.heap.get? P = some { cls := .none, data := .fields ps } := I2.hok P _ hP
  have cd : PySem.W.CodeHd s2.heap c P := TB.code.keeps I2.bk
  have nPfp : ∀ b ∈ fp, b ≠ P := fun b hb z => by
    have := (f2 b hb).1
    rw [z, hP] at this
    cases this
  have cont : ∀ (code : Value) (h3 : Heap) (tk : Nat) (ps' : Array Value), Heap.ExtBut P s2.heap h3 → s2.heap.objs.size ≤ h3.objs.size → h3.get? P = some { cls := .none, data := .fields ps' } → (∃ more, ps' = ps ++ more) → TriplesOk ps'.toList →
      wpAny (model X.prog X.w) X.A (builtinsFor X.env.globals X.env.builtins) (fun bi s₄ =>
        ∀ h', h'.Ns s₄.heap.objs.size (fun y => if y = ".0" then some (.ref it) else none) → Heap.SameBut s₄.heap.objs.size (s₄.heap.push { cls := .type "frame", data := .dict #[] }) h' →
          wpAny (model X.prog X.w) X.A (spliced (backTo pos (starEach [] X.env))) (fun vs s6 => wpAny (model X.prog X.w) X.A (call (.builtin "all") (.ref h'.objs.size :: vs)) (EP X pins σ Q) X.xe s6) X.xe { s₄ with
            gens := s₄.gens.push (.fresh (.compStart (.GeneratorExp elt [⟨.Name x px, iter, [], 0⟩] scope gpos) 0 (.ref it) .none (genEnv scope (cloFrom X.env.cells scope.names []) s₄.heap.objs.size code bi X.env))),
            toks := s₄.toks + 1 + 1 + 1,
            heap := h'.push { cls := .type "generator", data := .fields #[.int s₄.gens.size 0, .str "<genexpr>" (s₄.toks + 1), .str (X.env.qual ++ "<genexpr>") (s₄.toks + 1 + 1)] } }) X.xe { s2 with heap := h3, toks := tk } := by
    intro code h3 tk ps' hx hsz hP3 hmore ht3
    obtain ⟨bm, ob, e1, e2, e3, e4, e5, e6, e7, e8⟩ := TB.bm
    obtain ⟨more, em⟩ := hmore
    subst em
    refine wpAny_builtinsFor (m := X.mg) (by rw [I2.ok.glob]; exact (I2.mod.glob.keeps I2.bk).extBut hx TB.gP) e1 e2 (hx _ _ e4 (I2.bk _ _ e5)) e6 e7 e8 ?_
    have I4 : Inv X pins σ (upd H2 P (.tbl (ps ++ more))) { s2 with heap := h3, toks := tk } :=
      GxR.inv_tab (g' := s2.gens) (d' := s2.drawn) (t' := tk) I2 hP (fun b o hb e => hx b o hb e) hP3 I2.bare
    have hT : GxR.Tabbed P H2 (upd H2 P (.tbl (ps ++ more))) := ⟨⟨_, upd_same, ht3⟩, fun b hb => upd_ne hb⟩
    have st4 : tn 0 h3 := T.keep _ _ _ st2 fun b hb o e => hx b o (nPfp b hb) e
    have f4 : ∀ b ∈ fp, FpOk X pins (upd H2 P (.tbl (ps ++ more))) b := fun b hb => ⟨by rw [upd_ne (nPfp b hb)]; exact (f2 b hb).1, (f2 b hb).2⟩
    obtain ⟨n, W, w0, turn, stop⟩ := q _ hT
    generalize hs4 : ({ s2 with heap := h3, toks := tk } : Shared) = s4 at I4 ⊢
    have hh4 : s4.heap = h3 := by rw [← hs4]
    rw [← hh4] at st4
    generalize upd H2 P (.tbl (ps ++ more)) = H4 at I4 hT f4 w0
    intro h' hns hsb
    generalize hog : ({ cls := .type "generator", data := .fields #[.int s4.gens.size 0, .str "<genexpr>" (s4.toks + 1), .str (X.env.qual ++ "<genexpr>") (s4.toks + 1 + 1)] } : Obj) = og
    have hgen : ∀ hp : Heap, hp.get? h'.objs.size = some og → hp.IsGen h'.objs.size s4.gens.size := fun hp e => ⟨og, _, _, e, by rw [← hog], by rw [← hog], by rw [← hog]⟩
    have hCa : s4.heap.objs.size < h'.objs.size := hns.lt
    have kp1 : ∀ b o, s4.heap.get? b = some o → h'.get? b = some o := fun b o e => by
      have hlt := Heap.lt_size e
      exact (hsb.2 b (Nat.ne_of_lt hlt)).trans (Heap.get?_push_of_some _ e)
    have kp : ∀ b o, s4.heap.get? b = some o → (h'.push og).get? b = some o := fun b o e => Heap.get?_push_of_some _ (kp1 b o e)
    have hgo : (h'.push og).get? h'.objs.size = some og := Heap.get?_push_size _ (by rw [← hog]; rfl)
    have lt4 : ∀ b ∈ fp, b < s4.heap.objs.size := fun b hb => by
      obtain ⟨o, e, _⟩ := T.obj _ _ st4 b hb
      exact Heap.lt_size e
    have haf : h'.objs.size ∉ fp := fun hb => Nat.lt_irrefl _ (Nat.lt_trans (lt4 _ hb) hCa)
    have ge : GenEnvOk X scope s4.heap.objs.size (genEnv scope (cloFrom X.env.cells scope.names []) s4.heap.objs.size code builtinsNs X.env) := ⟨rfl, rfl, rfl, I4.ok.blt.symm, rfl, rfl⟩
    generalize hce : genEnv scope (cloFrom X.env.cells scope.names []) s4.heap.objs.size code builtinsNs X.env = cenv at ge ⊢
    let A' : Around := X.A.in1.in1.over (.compLoop (.GeneratorExp elt [⟨.Name x px, iter, [], 0⟩] scope gpos) 0 (.ref it) .none cenv) []
    have oA : GenOk X cenv (Room k) A' := ⟨hr.hd, over_frames _ _ _ _ _ _ _ _ _ _ I4.ok.frames, over_room hr⟩
    have I5 := gen_start (A' := A') (g' := s4.gens.push (.fresh (.compStart (.GeneratorExp elt [⟨.Name x px, iter, [], 0⟩] scope gpos) 0 (.ref it) .none cenv))) (t' := s4.toks + 1 + 1 + 1)
      I4 ok hN S.cell (fun b hb => ⟨f4 b hb, lt4 b hb⟩) ge oA.1 oA.2.1 kp (hns.push og) (AllBare.push I4.bare rfl) hCa hgo (fun v z => by rw [← hog] at z; cases z)
    have tr := gen_turns (R := Room k) (n := n) (W := W) (QE := fun H' => Q (.bl true) H') (QF := fun H' => Q (.bl false) H') (elt := elt) (px := px) (gg := gg) (te := te) (vs := own.map (·.2)) (g := s4.gens.size) (og := og) (a := h'.objs.size) hc I4 T f4 haf hgen
      (fun A' o => hpg _ _ A' cenv fp ge.sc ge.glob o.2.2) (fun A' o => hpe _ _ A' cenv fp ge.sc ge.glob ge.cells o.2.2) turn stop
    refine Calls.spliced_nil ?_
    refine call_allJ (n := n) hr.hd hr.depth tr (gj_fresh (A := X.A.in1) hr.hd oA (by rw [ge.sc]; exact S.co) tr ?_ ?_) (fun s' ⟨H', J', q'⟩ => ⟨.bl true, H', J', rfl, q'⟩) (fun s' ⟨H', J', q'⟩ => ⟨.bl false, H', J', rfl, q'⟩)
    · exact Array.getElem?_push_size ..
    · exact ⟨A', H4, I5, T.keep _ _ _ st4 fun b _ o e => kp b o e, fun b hb => (f4 b hb).1, w0⟩
  cases hf : codeAmong gpos ps.toList with
  | none =>
    refine wpAny_genexprCodeX hcode (cd.code hPs ht) (cd.tab hPs) hf fun c' h' tk hx hge hlt hco' _ htab' _ => ?_
    obtain ⟨o1, vs, f1, tf, fl, tg, inF, tx, tt, op, _, _, _, _, _, _, _, _, _, htr, _⟩ := hco'
    exact cont _ h' tk _ hx (Nat.le_trans hge (Nat.le_of_lt hlt)) htab'.2 ⟨_, rfl⟩ htr
  | some cv =>
    refine wpAny_genexprCode_hit hcode (cd.code hPs ht) hf ?_
    exact cont cv s2.heap s2.toks ps (Heap.ExtBut.refl _ _) (Nat.le_refl _) hPs ⟨#[], by simp⟩ ht
end
end Vp
namespace Vp
open PySem PySem.Spec PyProof.Rows L2

theorem noSet_gen {e : Expr} (h : noSet e = true) (h2 : noLst e = true) {env : Env} : ∀ x, genFold e env x = pure x := by
  intro x
  cases e <;> first | rfl | (cases h; done) | (cases h2; done)
theorem genSB_ok {scope : Scope} {x : Str} (h : genSB scope x = true) : GenS0 scope x := by
  unfold genSB at h
  simp only [Bool.and_eq_true, decide_eq_true_eq, Bool.not_eq_true', List.all_eq_true] at h
  obtain ⟨h1, h2, h3, h4, h5⟩ := h
  exact ⟨h1, h2, h3, h4, h5⟩
theorem isI_tg {c : SC} {it : I} {x : Str} {px : Pos} {y : Expr} (h : isI c it (gtg x) y = true) : isI c it (.Name x px) y = true := by
  cases it <;> (unfold isI at h ⊢; exact h)
theorem XO.gen {X : Cx} {Γ : Gam} {W : WX} {c : SC} (h : XO X Γ W c) (scope : Scope) (s : Shared) (H : Hp) (A' : Around) (env : Env) (fp : List Addr) {k : Nat} (e1 : env.scope = scope) (e2 : env.globals = X.env.globals) (r : Room k A') (f1 : ∀ g ∈ Γ.fns, FnIs X k g) (f2 : ∀ g ∈ Γ.mks, MkIs X k g) (f3 : ∀ g ∈ Γ.mts, MtIs X k g) (f4 : ∀ g ∈ Γ.kms, KmIs X k g) (f5 : ∀ g ∈ Γ.xcs, XcIs X k g) : XO (genCx X s H A' env fp) Γ W0 (c.gen scope) where
  hN := h.hN
  nd := h.nd
  sc := e1
  fn := fun x e => nomatch e
  calm := h.calm
  fns := h.fns
  cs := h.cs
  mks := h.mks
  mts := h.mts
  csOk := h.csOk
  fls := h.fls
  bis := h.bis
  tk := takes0N
  po := PassesOwn.never
  room := ⟨k, fun _ => r, fun _ => f1, fun _ => f2, fun _ => f3, fun _ => f4, f5⟩
  tb := fun e => nomatch e
  un := by have := r.un; show A'.units + 200 < cLine; omega
  hotn := fun e => let ⟨a, b, c', d, e', _⟩ := h.hotn e; ⟨a, b, c', d, e', rfl⟩
  kms := h.kms
  xcs := h.xcs
  xcm := h.xcm
  pes := h.pes
  pesOk := h.pesOk
  exm := h.exm
  xfl := h.xfl
  kd := h.kd
  xh := fun e => nomatch e
  hfs := fun e => absurd rfl e
  hotc := fun e => absurd rfl e
/-- all(..), by data -/
theorem de_allG {X : Cx} {W : WX} {wi : WL} {we : VE} {i : Nat} {P : Addr} {o : Option Addr} (ho : o = some P) :
    ∀ σ H Q, tE X.K W (fun ρ M Q X' => wi ρ M (fun ds M1 => (∃ T, o = some T ∧ M1 T = some .tbl) ∧ vAll we i ρ ds M1 Q) X') σ H Q → tAllG P (tI X.K W wi) (gName i) (tE X.K W0 we) [i] σ H Q := by
  intro σ H Q h
  obtain ⟨F, M, ρ, Q', X', s, re, h, pv, px⟩ := h
  refine ⟨F, M, ρ, _, X', s, re, h, fun ds M1 ⟨⟨T, hT, hP⟩, hw⟩ F1 H1 J st1 wk => ?_, px⟩
  obtain rfl : P = T := Option.some.inj (ho.symm.trans hT)
  obtain ⟨fP, ho, e1, ps, rfl, ht⟩ := st1.m P _ hP
  refine ⟨⟨ps, e1, ht⟩, fun H2 ⟨⟨ps2, e2, ht2⟩, same⟩ => ?_⟩
  have stT : Step X.K F1 M1 H1 F1 M1 H2 := by
    refine ⟨Ex.refl _, fun a o e => ?_, fun a mo e => ?_, fun a o e n => ?_, fun a _ _ g => g, fun a _ g => g, fun a h => ?_⟩
    · rw [same a (fun z => by rw [z, fP] at e; cases e)]
      exact st1.fh a o e
    · by_cases z : a = P
      · subst z
        rw [hP] at e; cases e
        exact ⟨fP, _, e2, ps2, rfl, ht2⟩
      · obtain ⟨f1, ho, h2, r⟩ := st1.m a mo e
        exact ⟨f1, ho, by rw [same a z]; exact h2, r⟩
    · rw [same a (fun z => by rw [z, hP] at n; cases n)]
      exact e
    · by_cases z : a = P
      · subst z; rw [e2]; simp
      · rw [same a z]; exact h
  refine ⟨ds.length, fun k H' => k ≤ ds.length ∧ ∃ F2 M2, Step X.K F1 M1 H2 F2 M2 H' ∧ vAll we i ρ (ds.drop k) M2 Q', ⟨Nat.zero_le _, F1, M1, Step.refl stT.sat, hw⟩, fun k H' hk ⟨_, F2, M2, st2, hw2⟩ => ⟨wk.go k H' (st2.ff.trans st2.fh) hk, fun y H3 yl => ?_⟩, fun H' ⟨_, F2, M2, st2, hw2⟩ => ⟨wk.stop H' (st2.ff.trans st2.fh), ?_⟩⟩
  · have hd : ds[k]? = some ds[k] := List.getElem?_eq_getElem hk
    obtain ⟨F3, st3, rx⟩ := wk.yld k ds[k] H' y H3 F2 M2 st2.ff st2.sat hd yl
    rw [List.drop_eq_getElem_cons hk] at hw2
    have stA := st2.trans st3
    refine ⟨by show ((σ.set i none).set i (some y)).set i none = σ.set i none; rw [List.set_set, List.set_set], F3, M2, (wipeR ρ [i]).set i (some ds[k]), _, noX, st3.sat, ((re.mono ((st1.ff.trans stA.ff))).wipe [i]).set rx, hw2, fun d M4 hb4 F4 H4 v st4 rv => ?_, px0⟩
    obtain ⟨b, rfl, hb4⟩ := hb4
    cases rv
    refine ⟨b, rfl, ?_⟩
    cases b with
    | true =>
      rw [if_pos rfl] at hb4 ⊢
      exact ⟨hk, F4, M4, stA.trans st4, hb4⟩
    | false =>
      rw [if_neg Bool.false_ne_true] at hb4 ⊢
      exact pv _ _ hb4 F4 H4 _ (st1.trans (stT.trans (stA.trans st4))) (.bl false)
  · rw [List.drop_length] at hw2
    exact pv _ _ hw2 F2 H' _ (st1.trans (stT.trans st2)) (.bl true)
end Vp
namespace Vp
open PySem PySem.Spec PyProof.Rows L2

section
variable {X : Cx} {W : WX} {wa wb wo wk wv : VE} {a b d : Expr} {pos : Pos}
/-! ### the handled exception's fields -/
theorem de_xfld {o : Expr} {f : Str} {xfl : List (Addr × Str)} {xh : Option (Addr × Value × Addr)} (h1 : attrOk o = true)
    (hx : ∀ a cls dd, xh = some (a, cls, dd) → ∃ (X0 : Cx) (oe : Obj) (pn : List (Addr × Obj)), X = X0.suite a ((a, oe) :: pn) ∧ L2N.Zn cls (some dd) oe ∧ ∃ vs, oe.data = .fields vs)
    (hf : ∀ y ∈ xfl, XfC X.K y.1 ∧ PySem.W.findIn X.K (.ref y.1) y.2 = some none ∧ OexC X.K y.1) (ho : PE X o (tE X.K W wo)) :
    PE X (.Attribute o f pos) (tE X.K W fun ρ M Q X' => wo ρ M (fun x M1 => ∃ a C dd fs d, xh = some (a, .ref C, dd) ∧ x = .ref a ∧ M1 dd = some (.xd fs) ∧ fs.lookup f = some d ∧ (C, f) ∈ xfl ∧ Q d M1) X') := by
  by_cases hc : ∃ a C dd, xh = some (a, .ref C, dd) ∧ (C, f) ∈ xfl
  · obtain ⟨a, C, dd, rfl, hm⟩ := hc
    obtain ⟨X0, oe, pn, rfl, hz, hv⟩ := hx a (.ref C) dd rfl
    obtain ⟨T, hno, _⟩ := hf _ hm
    refine PE.weak (pe_xf T hno hz.zc hv ho (attrOk_ok h1)) fun σ H Q h => ?_
    obtain ⟨F, M, ρ, Q', X', s, r, h, pv, px⟩ := h
    refine ⟨F, M, ρ, _, X', s, r, h, fun d1 M1 ⟨a', C', dd', fs, d, e1, e2, e3, e4, _, q⟩ F1 H1 v1 st1 r1 => ?_, px⟩
    cases e1
    subst e2
    cases r1
    obtain ⟨_, ho', hp, ws, rfl, hks, r2⟩ := st1.m dd _ e3
    rcases lookup_rep (f := f) hks r2 with ⟨_, hn⟩ | ⟨v, d', h3, h4, rv⟩
    · rw [hn] at e4; cases e4
    · rw [h4] at e4; cases e4
      exact ⟨rfl, rfl, dd, ws, v, rfl, hp, h3, (pv.step st1).here st1.sat q rv⟩
  · refine PE.weak (pe_fld ho (attrOk_ok h1)) fun σ H Q h => ?_
    obtain ⟨F, M, ρ, Q', X', s, r, h, pv, px⟩ := h
    exact ⟨F, M, ρ, _, X', s, r, h, fun d1 M1 ⟨a', C', dd', fs, d, e1, _, _, _, hm, _⟩ _ _ _ _ _ => absurd ⟨a', C', dd', e1, hm⟩ hc, px⟩
/-! ### a dict of the text -/
theorem kd_get {pins : List (Addr × Obj)} {σ : L2.St} {H : Hp} {s : Shared} {A : Around} {E : Value → Shared → Prop} {Q : Value → Shared → Prop} {a : Addr} {es : Array DictEntry} {n : Nat} {z : Str} {t : Tok} {r : Option Value} (I : Inv X pins σ H s) (D : KDict X.K X.w a es n) (e : PySem.W.nsIn X.K a z = some r)
    (h : ∀ s', Inv X pins σ H s' → Q (r.getD .none) s') : wpAny (model X.prog X.w) A (call (.builtin "dict.get") [.ref a, .str z t]) Q E s := by
  have hm := PySem.W.mapOf_K (prog := X.prog) (w := X.w) I.kIn D.at_ D.lit
  refine call_meetsIn PySem.F.slot_dict_get hm.typeIs PySem.F.entry_dict_get (PySem.F.args_dict_get_2 _ _) (meets_dict_get (strKind X.prog X.w) a (PySem.strKind_is X.prog X.w z t) D.low) ⟨_, hm, ?_⟩
  rw [PySem.W.find_K D.at_ e]
  exact h _ (I.tok _)
theorem de_kget {o k : Expr} {apos : Pos} {kd : List (Addr × List (Str × D))} (hkd : ∀ y ∈ kd, KdIs X y) (h1 : attrOk o = true) (h2 : noStar k = true) (h3 : (apos.endLine == pos.line) = true) (ho : PE X o (tE X.K W wo)) (hk : PE X k (tE X.K W wk)) :
    PE X (.Call (.Attribute o "get" apos) [k] [] pos) (tE X.K W fun ρ M Q X' => wo ρ M (fun x M1 => (∃ a kvs, x = .ref a ∧ (a, kvs) ∈ kd) ∧ wk ρ M1 (fun y M2 => ∃ a kvs z, x = .ref a ∧ (a, kvs) ∈ kd ∧ y = .str z ∧ Q (kgetV kvs z) M2) X') X') := by
  have m : M1 X o "get" apos k pos := m1_of h1 h2 h3
  refine ⟨fun pins s σ H Q I h => ?_⟩
  obtain ⟨F, M, ρ, Q', X', st, re, h, pv, px⟩ := h
  refine wpAny_Call_method m.base m.few m.line PySem.F.plainAttrs_dict PySem.F.slot_dict_get PySem.F.type_dict_get (thn (ho.run pins s σ H (fun x H1 => ∃ a kvs, x = .ref a ∧ (a, kvs) ∈ kd ∧ tE X.K W wk σ H1 fun y H2 => ∃ kvs z, (a, kvs) ∈ kd ∧ y = .str z ∧ ∀ v, (∀ F, Rep X.K F v (kgetV kvs z)) → Q v H2) I ⟨F, M, ρ, _, X', st, re, h, fun d1 M1 ⟨⟨a, kvs, e1, e2⟩, q⟩ F1 H1 v1 st1 r1 => ?_, px⟩) fun u s1 got => ?_)
  · subst e1
    cases r1
    refine ⟨a, kvs, rfl, e2, F1, M1, ρ, _, X', st1.sat, re.mono st1.ff, q, fun d2 M2 ⟨a', kvs', z, e3, e4, e5, q⟩ F2 H2 v2 st2 r2 => ?_, px.step st1⟩
    cases e3
    subst e5
    cases r2
    exact ⟨kvs', z, e4, rfl, fun v hv => (pv.step (st1.trans st2)).here st2.sat q (hv F2)⟩
  · obtain ⟨x, H1, I1, rx, a, kvs, ex, hm, q1⟩ := got
    subst ex
    obtain rfl : u = Value.ref a := rx
    obtain ⟨es, n, D, _⟩ := hkd _ hm
    have hmo := PySem.W.mapOf_K (prog := X.prog) (w := X.w) I1.kIn D.at_ D.lit
    refine ⟨hmo.typeIs, fun b q => ?_, ?_⟩
    · cases q
      exact ⟨_, I1.kIn _ _ D.at_, rfl⟩
    · rw [m.trees]
      refine Calls.callWith_builtin rfl (Calls.evalArgs_plain (Calls.spliced_cons (thn (hk.run pins s1 σ H1 _ I1 q1) fun iv s2 ⟨y, H2, I2, ry, kvs', z, hm2, ey, q2⟩ => Calls.spliced_nil ?_)))
      subst ey
      obtain ⟨t, rfl⟩ := ry
      obtain ⟨es2, n2, D2, hz⟩ := hkd _ hm2
      rcases hz z with ⟨e1, e2⟩ | ⟨u, v, d, e1, e2, rv, hv⟩
      · refine kd_get I2 D2 e1 fun s3 I3 => ⟨.non, H2, I3, rfl, q2 .non fun F => ?_⟩
        unfold kgetV
        rw [show kvs'.lookup z = none from e2]
        exact .non
      · refine kd_get I2 D2 e1 fun s3 I3 => ⟨v, H2, I3, rv, q2 v fun F => ?_⟩
        unfold kgetV
        rw [show kvs'.lookup z = some d from e2]
        exact hv F
/-! ### C(k = v, ..) -/
theorem PK.weak {kws : List Keyword} {t t' : TA} (h : PK X kws t) (i : ∀ σ H Q, t' σ H Q → t σ H Q) : PK X kws t' := ⟨fun p pins s σ H Q I q => h.run p pins s σ H Q I (i σ H Q q)⟩
theorem dk_nil : PK X [] (tL X.K W fun _ M Q _ => Q [] M) := by
  refine PK.weak pk_nil fun σ H Q h => ?_
  obtain ⟨F, M, ρ, Q', X', s, r, h, pl, px⟩ := h
  exact pl _ _ h F H _ (Step.refl s) .nil
theorem dk_cons {kws : List Keyword} {wl : WL} {nm : Option Str} {kpos : Pos} (ha : PE X a (tE X.K W wa)) (hr : PK X kws (tL X.K W wl)) :
    PK X (⟨nm, a, kpos⟩ :: kws) (tL X.K W fun ρ M Q X' => wa ρ M (fun x M1 => wl ρ M1 (fun xs M2 => Q (x :: xs) M2) X') X') := by
  refine PK.weak (pk_cons ha hr) fun σ H Q h => ?_
  obtain ⟨F, M, ρ, Q', X', s, r, h, pl, px⟩ := h
  refine ⟨F, M, ρ, _, X', s, r, h, fun d1 M1 h1 F1 H1 v1 st1 r1 => ?_, px⟩
  exact ⟨F1, M1, ρ, _, X', st1.sat, r.mono st1.ff, h1, fun ds M2 h2 F2 H2 vs st2 r2 => pl _ _ h2 F2 H2 _ (st1.trans st2) (.cons (r1.mono st2.ff) r2), px.step st1⟩
theorem initK_run {CX : CXT} {k : Nat} {f C : Addr} {fd : FuncData} {ps ks : List Str} {sp : Sp} {E : XK} {g : List Value → List Value → List Value} {gV : List V → List V → List V} {pins : List (Addr × Obj)} {σ : L2.St} {H : Hp} {s : Shared} {Q : VK} {ws : List Value} {zs : List V}
    (mk : Mk X.K C f) (F : FnOk X.prog X.w X.K X.mg X.base CX k f fd ps sp) (hr : Room (k + 1) X.A) (hb : KBn X.K fd ps 1 ks g gV) (hx : PassesAt CX X σ E) (I : Inv X pins σ H s) (rz : Vals zs ws) (l2 : zs.length = ks.length)
    (h : ∀ x dx, H x = none → H dx = none → dx ≠ x → sp (gV [.ref x] zs) (upd (upd H dx (.own x)) x (.ins C dx [])) (fun v H2 => v = .non ∧ Q (.ref x) H2) E) :
    wpAny (model X.prog X.w) X.A (call (.ref C) [] (ks.zip ws)) (EP X pins σ Q) X.xe s := by
  have hq := h (s.heap.objs.size + 1) s.heap.objs.size (I.hok.fresh (Nat.le_succ _)) (I.hok.fresh (Nat.le_refl _)) (Nat.ne_of_lt (Nat.lt_succ_self _))
  have I2 := Inv.made (C := C) I
  have r1 : Vals [V.ref (s.heap.objs.size + 1)] [Value.ref (s.heap.objs.size + 1)] := .cons rfl .nil
  have r2 := hb.rel r1 rz
  refine wpAny_call (make_map (f := f) I.kIn mk.makes mk.init (beq_iff_eq.mp mk.fn) (codeAny_mono (F.run _ X.stack _ _ ⟨[Value.ref (s.heap.objs.size + 1)], ks.zip ws⟩ (g [Value.ref (s.heap.objs.size + 1)] ws) _ _ E (hr.make C [] (ks.zip ws))
    (I2.env0.make C [] (ks.zip ws)) (hb.to _ [Value.ref (s.heap.objs.size + 1)] ws I2.kIn rfl (rz.length.symm.trans l2)) r2 hq) fun r s' hq' => ?_))
  cases r with
  | error e => exact hx pins _ _ e s' I2 hq'
  | ok fl =>
    cases fl with
    | ret u =>
      obtain ⟨v, H', I3, rv, ev, q3⟩ := I2.after hq'
      subst ev
      exact ⟨rv, ⟨V.ref (s.heap.objs.size + 1), H', I3, rfl, q3⟩⟩
    | next => exact False.elim hq'
    | brk => exact False.elim hq'
    | cont => exact False.elim hq'
theorem kw_all : ∀ {kws : List Keyword} {env : Env} {pos : Pos}, kws.all (fun k => k.arg.isSome) = true → (backToKw pos (keywordEach kws env)).all (·.1.isSome) = true ∧ (backToKw pos (keywordEach kws env)).filterMap (·.1) = kwNames kws ∧ (backToKw pos (keywordEach kws env)).any (·.1.isNone) = false
  | [], _, _, _ => ⟨rfl, rfl, rfl⟩
  | ⟨none, _, _⟩ :: _, _, _, h => by cases h
  | ⟨some n, e, p⟩ :: r, env, pos, h => by
    have hr : r.all (fun k => k.arg.isSome) = true := by
      rw [List.all_cons] at h
      exact (Bool.and_eq_true_iff.mp h).2
    obtain ⟨h1, h2, h3⟩ := kw_all (env := env) (pos := pos) hr
    refine ⟨?_, ?_, ?_⟩
    · show (true && (backToKw pos (keywordEach r env)).all (·.1.isSome)) = true
      rw [h1]; rfl
    · show n :: (backToKw pos (keywordEach r env)).filterMap (·.1) = n :: kwNames r
      rw [h2]
    · show (false || (backToKw pos (keywordEach r env)).any (·.1.isNone)) = false
      rw [h3]; rfl
theorem de_makek {kws : List Keyword} {wl : WL} {k : Nat} {g : Kc} {x : Str} {p : Pos} (hr : Room k X.A) (hf : KmIs X k g) (tk : L2N.Takes X W) (hx : g.name = x) (hks : g.ks = kwNames kws) (hg : Gl X x) (hn : okNm x = true) (ha : PK X kws (tL X.K W wl)) (hs : kws.all (fun k => k.arg.isSome) = true) :
    PE X (.Call (.Name x p) [] kws pos) (tE X.K W fun ρ M Q X' => wl ρ M (fun ds M1 => ds.length = g.ks.length ∧ ∀ p, M1 p = none → g.con (.ref p :: g.arr ds) (updM M1 p (.ins g.cls [])) (fun r M2 => r = .non ∧ Q (.ref p) M2) X') X') := by
  subst hx
  obtain ⟨j, f, fd, ps, gf, gV, hj, mk, F0, hm, hb, hgv⟩ := hf
  obtain ⟨h1, h2, h3⟩ := kw_all (env := X.env) (pos := pos) hs
  refine ⟨fun pins s σ H Q I h => ?_⟩
  refine wpAny_Call_Name_kw (ld_glob I hg hm ?_ (okNm1 hn))
  refine PySem.W.callWith_KW0 (h₀ := X.base) I.ok.mod.kin mk.kp h1 ?_ (by show (false || _) = false; rw [h3]; rfl)
  refine thn (ha.run pos pins s σ H (fun zs H2 => zs.length = g.ks.length ∧ ∀ x dx, H2 x = none → H2 dx = none → dx ≠ x → spOf X.K g.n g.con (gV [.ref x] zs) (upd (upd H2 dx (.own x)) x (.ins g.cls dx [])) (fun v H3 => v = .non ∧ Q (.ref x) H3) (L2.WE W σ)) I ?_) fun ws s2 got => ?_
  · obtain ⟨F, M, ρ, Q', X', s, r, h, pv, px⟩ := h
    refine ⟨F, M, ρ, _, X', s, r, h, fun ds M1 ⟨hl, q⟩ F1 H1 vs st1 r1 => ⟨by rw [r1.length]; exact hl, fun x dx h1 h2 ne => ?_⟩, px⟩
    have st2 := make_ok (C := g.cls) st1.sat h1 h2 ne
    have st := st1.trans st2
    obtain ⟨rg, lg⟩ := hgv F1 x vs ds hl r1
    refine ⟨F1, _, .ref x :: g.arr ds, _, X', st2.sat, rg, lg, q x (st1.sat.none h1).2, fun d M' ⟨e, q'⟩ F' H' v st' rv => ?_, px.step st⟩
    subst e
    cases rv
    exact ⟨rfl, pv _ _ q' F' H' _ (st.trans st') (.ref x)⟩
  · obtain ⟨zs, H2, I2, rz, l2, q⟩ := got
    refine ⟨I2.kIn, ?_⟩
    rw [h2, ← hks]
    exact initK_run mk F0 (hr.mono hj) hb (L2N.passAt tk σ) I2 rz l2 q
/-! ### list(d.values()) -/
theorem de_lvals {o : Expr} {p apos cpos : Pos} (hc : X.calm = true) (hg : Gl X "list") (hm : X.mg "list" = none) (h1 : attrOk o = true) (hl : (apos.endLine == cpos.line) = true) (ho : PE X o (tE X.K W wo)) :
    PE X (.Call (.Name "list" p) [.Call (.Attribute o "values" apos) [] [] cpos] [] pos) (tE X.K W fun ρ M Q X' => wo ρ M (fun x M1 => ∃ p kvs, x = .ref p ∧ M1 p = some (.dK kvs) ∧ Q (.lst (kvs.map (·.2))) M1) X') := by
  refine ⟨fun pins s σ H Q I h => ?_⟩
  obtain ⟨F, M, ρ, Q', X', st, re, h, pv, px⟩ := h
  have hs : starEach [.Call (.Attribute o "values" apos) [] [] cpos] X.env = (false, eval (.Call (.Attribute o "values" apos) [] [] cpos) X.env) :: starEach [] X.env := rfl
  refine wpAny_Call_Name_kw (ld_blt I hg hm PyProof.Rows.Boot.«list» ?_)
  refine PyProof.Rows.callWith_type1 ?_ hs rfl
  rw [hs]
  show wpAny _ _ (spliced ((false, eval (.Call (.Attribute o "values" apos) [] [] cpos) X.env) :: backTo pos (starEach [] X.env))) _ _ s
  refine Calls.spliced_cons ?_
  refine wpAny_Call_method (T := "dict") (id := "dict.values") (attrOk_ok h1) rfl hl PySem.F.plainAttrs_dict PySem.F.slot_dict_values PySem.F.type_dict_values (thn (ho.run pins s σ H (fun x H1 => ∃ d ws, x = .ref d ∧ H1 d = some (.dK ws) ∧ ∀ q, H1 q = none → Q (.ref q) (upd H1 q (.lst (ws.map (·.2))))) I ⟨F, M, ρ, _, X', st, re, h, fun d1 M1 ⟨p, kvs, e1, e2, q⟩ F1 H1 v1 st1 r1 => ?_, px⟩) fun u s1 got => ?_)
  · subst e1
    cases r1
    obtain ⟨_, ho, hp, ws, rfl, hk, r2⟩ := st1.m p _ e2
    exact ⟨p, ws, rfl, hp, fun q' hq => (pv.step st1).fresh st1.sat q hq (new_lst st1.sat hq r2)⟩
  · obtain ⟨x, H1, I1, rx, d, ws, ex, hd, q⟩ := got
    subst ex
    obtain rfl : u = Value.ref d := rx
    obtain ⟨hz, hs0, vs, kv, hdo⟩ := I1.hok d _ hd
    obtain ⟨ep, hat⟩ := hdo.dictAt
    have lk : ws.length = vs.length := Paired.length kv
    have I2 : Inv X pins σ H1 { s1 with heap := s1.heap.push { cls := .type "dict_values", data := .fields #[.ref d] } } := I1.kept (t' := s1.toks) fun b ob q => Heap.get?_push_of_some _ q
    refine ⟨hdo.typeIs, hdo.mapOf.noDict, ?_⟩
    show wpAny _ _ (callWith cpos (.builtin "dict.values") [.ref d] [] []) _ X.xe s1
    refine method_meetsIn PySem.F.slot_dict_values PySem.F.entry_dict_values rfl (PySem.evalArgs_none ⟨rfl, hdo.typeIs, PySem.F.args_dict_values_1 _, _, meets_dict_values (mixKind X.prog X.w) d hs0, ⟨vs, hdo⟩, ?_⟩)
    refine Calls.spliced_nil ?_
    refine PySem.W.kdl_call (PySem.W.kdl_values (knd := mixKind X.prog X.w) (kvs := vs) (ep := ep)) (I1.ok.hd hc) ⟨⟨_, Heap.get?_push_size _ rfl, rfl, rfl⟩, hat.push _⟩ (by omega) fun h' tk acc c hk hS hacc => ?_
    have ea : acc.toList = vs.map (·.2) := PySem.W.kdl_vals_eq acc.toList (by rw [Array.length_toList]; exact hacc.1) fun j v e => hacc.2 j v (by rw [← Array.getElem?_toList]; exact e)
    have hS2 : s1.heap.objs.size + 1 = (s1.heap.push { cls := .type "dict_values", data := .fields #[.ref d] }).objs.size := (Heap.size_push ..).symm
    have hn : H1 ((s1.heap.push { cls := .type "dict_values", data := .fields #[.ref d] }).objs.size) = none := I2.hok.fresh (Nat.le_refl _)
    refine ⟨.ref _, _, I2.laid (t' := tk) (o := .lst (ws.map (·.2))) hk (Nat.le_refl _) ⟨by rw [List.length_map]; exact hz, acc.toList, c, ?_, by rw [Array.toArray_toList]; exact hS⟩, rfl, q _ hn⟩
    rw [ea]
    clear hz hs0 hdo hat lk hd q hacc ea
    induction kv with
    | nil => exact .nil
    | cons hp _ ih => exact .cons hp.2 ih
end
end Vp
namespace Vp
open PySem PySem.Spec PyProof.Rows L2

/-! ### enumerate over a dict: its keys by nextOf (the library has pyNext alone) -/
section
variable {prog : Program} {w : World} {A : Around} {E : Value → Shared → Prop} {s : Shared} {K : Type} [DecidableEq K] {knd : KeyKind prog w K}
theorem key_item {it d : Addr} {i ep : Nat} {kvs : List (K × Value)} {k : K} {v : Value} {Q : Value → Shared → Prop} (hit : s.heap.IsKeyIter it d i kvs.length ep) (hm : s.heap.DictAt knd d kvs ep) (hx : kvs[i]? = some (k, v))
    (hQ : ∀ key h', knd.is k key = true → h'.IsKeyIter it d (i + 1) kvs.length ep → Heap.SameBut it s.heap h' → Q key { s with heap := h' }) : wpAny (model prog w) A (Builtin.SmallTypes.nextOf (.ref it)) Q E s := by
  obtain ⟨o, ho, hc, hd⟩ := id hit; obtain ⟨od, es, hod, hcd, hdd, hk, hp, hn⟩ := id hm
  have hsz : es.size = kvs.length := (by rw [← hp.length]; simp); have hlt : i < kvs.length := (List.getElem?_eq_some_iff.mp hx).1
  have hlt' : i < es.size := (by rw [hsz]; exact hlt); have hkey : knd.is k es[i].key = true := (hp.get? (e := es[i]) (by simp [hlt']) hx).1
  have hown : Builtin.Dict_items.ownsTuple "dict_keyiterator" = false := (by decide); unfold Builtin.SmallTypes.nextOf
  refine wpAny_bind (wpAny_callSpecial?_slot (name := Str.ofString "__next__") hit.typeIs F.slot_dict_keyiterator_next (wpAny_call_entry F.slot_dict_keyiterator_next hit.typeIs F.entry_dict_keyiterator_next ?_ (F.args_dict_keyiterator_next_1 _)))
  refine wpAny_bind (wpAny_pure ?_); refine wpAny_bind (wpAny_bind ?_)
  refine wpAny_bind (wpAny_typeNameOfWhole_keyiter hit.typeIs (wpAny_pure ?_)); refine wpAny_bind (wpAny_fieldsOf ho hd ?_)
  simp only [hown, Bool.false_eq_true, if_false]; show wpAny _ _ (if (Value.ref d == Value.none) = true then _ else _) _ _ s
  rw [if_neg (show ¬ ((Value.ref d == Value.none) = true) from Bool.false_ne_true)]; refine wpAny_bind (wpAny_pure (wpAny_bind (wpAny_dictEntries hod hdd ?_)))
  rw [if_neg (by rw [hsz]; simp)]; refine wpAny_bind (wpAny_pure (wpAny_bind (wpAny_dictEpoch hod hdd ?_)))
  rw [if_neg (by simp)]; refine wpAny_pure ?_
  simp only [show ¬ ((i : Int) < 0) from by omega, if_false, Int.toNat_natCast, Array.getElem?_eq_getElem hlt']; refine wpAny_bind ?_
  refine wpAny_bind (wpAny_typeNameOfWhole_keyiter hit.typeIs (wpAny_pure (wpAny_bind (wpAny_isOneOf_keyiter hit.typeIs ?_))))
  show wpAny _ _ (setField (.ref it) 1 (rawInt ((i : Int) + 1)) >>= _) _ _ s; refine wpAny_bind (wpAny_setField ho hd (by simp) ?_)
  have hit' : (s.heap.update it (Obj.mapFields (·.setIfInBounds 1 (rawInt ((i : Int) + 1))))).IsKeyIter it d (i + 1) kvs.length ep := ⟨_, Heap.get?_update_self _ ho (Obj.isFreed_of_fields (Obj.data_mapFields hd _)), (Obj.cls_mapFields ..).trans hc, by rw [Obj.data_mapFields hd]; simp [rawInt]⟩
  refine wpAny_bind (wpAny_holding (wpAny_bind (wpAny_isOneOf_keyiter (s := { s with heap := s.heap.update it (Obj.mapFields (·.setIfInBounds 1 (rawInt ((i : Int) + 1)))) }) hit'.typeIs ?_)))
  show wpAny _ _ (pure es[i].key) _ _ _; exact wpAny_pure (wpAny_pure ⟨_, rfl, wpAny_pure (hQ _ _ hkey hit' (Heap.SameBut.update ..))⟩)
theorem key_end {it d : Addr} {ep : Nat} {kvs : List (K × Value)} {Q : Value → Shared → Prop} (hh : A.handled = none) (hit : s.heap.IsKeyIter it d kvs.length kvs.length ep) (hm : s.heap.DictAt knd d kvs ep)
    (hE : ∀ h' e, Heap.ExtBut it s.heap h' → (∃ o, h'.get? e = some o ∧ o.cls = .type "StopIteration") → E (.ref e) { s with heap := h' }) : wpAny (model prog w) A (Builtin.SmallTypes.nextOf (.ref it)) Q E s := by
  obtain ⟨o, ho, hc, hd⟩ := id hit; obtain ⟨od, es, hod, hcd, hdd, hk, hp, hn⟩ := id hm
  have hsz : es.size = kvs.length := (by rw [← hp.length]; simp); have hge : es.size ≤ kvs.length := Nat.le_of_eq hsz
  have hown : Builtin.Dict_items.ownsTuple "dict_keyiterator" = false := (by decide); unfold Builtin.SmallTypes.nextOf
  refine wpAny_bind (wpAny_callSpecial?_slot (name := Str.ofString "__next__") hit.typeIs F.slot_dict_keyiterator_next (wpAny_call_entry F.slot_dict_keyiterator_next hit.typeIs F.entry_dict_keyiterator_next ?_ (F.args_dict_keyiterator_next_1 _)))
  refine wpAny_bind (wpAny_pure ?_); refine wpAny_bind (wpAny_bind ?_)
  refine wpAny_bind (wpAny_typeNameOfWhole_keyiter hit.typeIs (wpAny_pure ?_)); refine wpAny_bind (wpAny_fieldsOf ho hd ?_)
  simp only [hown, Bool.false_eq_true, if_false]; show wpAny _ _ (if (Value.ref d == Value.none) = true then _ else _) _ _ s
  rw [if_neg (show ¬ ((Value.ref d == Value.none) = true) from Bool.false_ne_true)]; refine wpAny_bind (wpAny_pure (wpAny_bind (wpAny_dictEntries hod hdd ?_)))
  rw [if_neg (by rw [hsz]; simp)]; refine wpAny_bind (wpAny_pure (wpAny_bind (wpAny_dictEpoch hod hdd ?_)))
  rw [if_neg (by simp)]; refine wpAny_pure ?_
  simp only [show ¬ ((kvs.length : Int) < 0) from by omega, if_false, Int.toNat_natCast, Array.getElem?_eq_none hge]; refine wpAny_bind ?_
  refine wpAny_bind (wpAny_typeNameOfWhole_keyiter hit.typeIs (wpAny_pure ?_)); show wpAny _ _ (setField (.ref it) 0 .none >>= _) _ _ s
  refine wpAny_bind (wpAny_setField ho hd (by simp) ?_); show wpAny _ _ (newExc (.type "StopIteration") [] >>= _) _ _ _
  refine wpAny_bind ?_; simp only [newExc, newTuple]
  refine wpAny_bind (wpAny_newObj_type ?_ (by size_fits)); refine wpAny_bind (m := firstArgMember _ _) (wpAny_of_eq (a := Value.none) (by first | rfl | (simp only [firstArgMember]; rfl)) ?_)
  refine wpAny_newObj_type ?_ (by size_fits); simp only [raiseNew]
  refine wpAny_bind (wpAny_handled ?_); rw [show A.in1.handled = none from hh]
  refine wpAny_bind (wpAny_pure (wpAny_throw ?_)); exact hE _ _ (((Heap.SameBut.update ..).extBut.push _).push _) ⟨_, Heap.get?_push_size _ rfl, rfl⟩
theorem DictAt.ext {d it ep : Nat} {kvs : List (K × Value)} {h h' : Heap} (hm : h.DictAt knd d kvs ep) (k : ∀ o, h.get? d = some o → h'.get? d = some o) : h'.DictAt knd d kvs ep := by
  obtain ⟨od, es, hod, r⟩ := hm
  exact ⟨od, es, k _ hod, r⟩
theorem draws_keys (hh : A.handled = none) (it d : Addr) (hne : d ≠ it) (kvs : List (K × Value)) (ep : Nat) :
    Draws prog w A it [it, d] kvs.length (fun i v => ∃ k u, kvs[i]? = some (k, u) ∧ knd.is k v = true) (fun i h => h.IsKeyIter it d i kvs.length ep ∧ h.DictAt knd d kvs ep) where
  live := fun _ _ st => let ⟨o, ho, _⟩ := st.1; ⟨o, ho⟩
  frame := fun _ _ _ st hk => ⟨st.1.at fun o e => hk it (by simp) o e, DictAt.ext (it := it) st.2 fun o e => hk d (by simp) o e⟩
  item := fun i s Q E hi st hQ => by
    obtain ⟨⟨k, u⟩, hku⟩ : ∃ p, kvs[i]? = some p := ⟨kvs[i], List.getElem?_eq_getElem hi⟩
    exact key_item st.1 st.2 hku fun key h' hk hit' hs => hQ _ h' s.toks ⟨k, u, hku, hk⟩ ⟨hit', DictAt.ext (it := it) st.2 fun o e => (hs.2 d hne).trans e⟩ hs
  done := fun s Q E st hE => key_end hh st.1 st.2 hE
end
/-- enumerate(d), d locked -/
def ItdE (d : Addr) (o : Obj) (kvs : List (Key × V)) : It :=
  ⟨fun i H => H d = some (.frz o (.dK kvs)) ∧ i < kvs.length, fun i H x H' => ∃ T k v, kvs[i]? = some (k, v) ∧ x = .ref T ∧ H T = none ∧ H' = upd H T (.tup [.int (i : Nat), kV k]), fun i H => H d = some (.frz o (.dK kvs)) ∧ i = kvs.length⟩
theorem turn_enumK {P : Program} {w : World} {K : PySem.W.Frag} {elts : List Expr} {kk : Nat} {tpos : Pos} {o : Obj} {es : Array DictEntry} {ep : Nat} {kvs : List (Key × V)} (d e it : Addr) (hod : o.data = .dict es ep) :
    Turn P w K (.Tuple elts kk tpos) (ItdE d o kvs) [e, it] e (fun i h => (∃ old, IsEnum h e it ((i : Nat) : Int) old) ∧ h.IsKeyIter it d i kvs.length ep ∧ e ≠ it) where
  mem := by simp
  obj := fun i h st c hc => by
    obtain ⟨⟨old, he⟩, ⟨oi, hit, _, dd⟩, _⟩ := st
    rcases (show c = e ∨ c = it by simpa using hc) with q | q
    · rw [q]; exact ⟨_, he, fun v q => nomatch q⟩
    · rw [q]; exact ⟨oi, hit, fun v z => by rw [dd] at z; cases z⟩
  keep := fun i h h' st kp => by
    obtain ⟨⟨old, he⟩, hit, hne⟩ := st
    exact ⟨⟨old, kp e (by simp) _ he⟩, hit.at fun o q => kp it (by simp) o q, hne⟩
  item := by
    intro X hP hw hK hc i pins s σ H E I hf st hg
    subst hP hw hK
    obtain ⟨⟨old, he⟩, hit, hne⟩ := st
    obtain ⟨hd, hi⟩ := hg
    obtain ⟨hs, hgd, hx, es', ep', vs, hdt, hsz, kv, hm⟩ := I.frzK hd
    obtain ⟨rfl, rfl⟩ := dict_ep hod hdt
    obtain ⟨⟨k, v⟩, hkv⟩ : ∃ p, kvs[i]? = some p := ⟨kvs[i], List.getElem?_eq_getElem hi⟩
    obtain ⟨u, hu, ru⟩ := kv_get kv hkv
    have hl : kvs.length = vs.length := Paired.length kv
    rw [hl] at hit
    have hel : e < s.heap.objs.size := Heap.lt_size he
    have hh := in1_handled (I.ok.hd hc)
    have hdo : H d ≠ none := by rw [hd]; simp
    have ne1 : d ≠ it := fun z => hdo (by rw [z]; exact (hf it (by simp)).1)
    have ne2 : d ≠ e := fun z => hdo (by rw [z]; exact (hf e (by simp)).1)
    have out : e ∉ [it, d] := by simp [hne, ne2.symm]
    refine wpAny_pyNext_enum_itemC (draws_keys (knd := mixKind X.prog X.w) hh it d ne1 vs _) he ⟨hit, hm⟩ (by omega) hne out fun x1 h' tk e1 ho hit' hT hsz hk => ?_
    obtain ⟨k', u', e2, ek⟩ := e1
    rw [hu] at e2; cases e2
    refine ⟨_, rfl, wpAny_letOwnedTupleGo_enum (s := { s with heap := h', toks := tk + 1 }) ho fun h2 he' sb => ?_⟩
    have there2 : h2.get? s.heap.objs.size = some { cls := .type "tuple", data := .seq #[.int i tk, x1] } := (sb.2 _ (Nat.ne_of_gt hel)).trans hT
    have ok2 : ObjOk X.prog X.w (upd H s.heap.objs.size (.tup [.int (i : Nat), kV k])) h2 s.heap.objs.size (.tup [.int (i : Nat), kV k]) :=
      ⟨by show 2 ≤ sizeLine; decide, [.int i tk, x1], .cons ⟨_, rfl⟩ (.cons (relV_key (show keyIs k x1 = true from ek)) .nil), ⟨_, there2, rfl, _, rfl⟩⟩
    have I1 : Inv X pins σ (upd H s.heap.objs.size (.tup [.int (i : Nat), kV k])) { s with heap := h2, toks := tk + 1 } :=
      I.turnedNew (t' := tk + 1) (ch := [e, it]) (fun c ob hb q => (sb.2 c (fun z => hb (by simp [z]))).trans (hk c ob (fun z => hb (by simp [z])) (fun z => hb (by simp [z])) q)) hf (Nat.le_refl _) ok2
    refine ⟨.ref s.heap.objs.size, _, I1, rfl, ⟨_, k, v, hkv, rfl, I.hok.fresh (Nat.le_refl _), rfl⟩, ⟨⟨x1, ?_⟩, ?_, hne⟩, fun c hcm => ?_⟩
    · rw [show ((i + 1 : Nat) : Int) = (i : Int) + 1 by omega]; exact he'
    · rw [hl]; exact hit'.1.at fun o q => (sb.2 it (Ne.symm hne)).trans q
    · have hlt : c < s.heap.objs.size := by
        rcases (show c = e ∨ c = it by simpa using hcm) with q | q
        · rw [q]; exact hel
        · rw [q]; obtain ⟨_, e2, _⟩ := hit; exact Heap.lt_size e2
      rw [upd_ne (Nat.ne_of_lt hlt)]
      exact (hf c hcm).1
  done := by
    intro X hP hw hK hc i pins s σ H E I hf st hg
    subst hP hw hK
    obtain ⟨⟨old, he⟩, hit, hne⟩ := st
    obtain ⟨hd, hi⟩ := hg
    obtain ⟨hs, hgd, hx, es', ep', vs, hdt, hsz, kv, hm⟩ := I.frzK hd
    obtain ⟨rfl, rfl⟩ := dict_ep hod hdt
    have hl : kvs.length = vs.length := Paired.length kv
    subst hi
    rw [hl] at hit he
    have hh := in1_handled (I.ok.hd hc)
    have hdo : H d ≠ none := by rw [hd]; simp
    have ne1 : d ≠ it := fun z => hdo (by rw [z]; exact (hf it (by simp)).1)
    obtain ⟨f0, f1, f2, f3, f4, f5⟩ := hf it (by simp)
    exact wpAny_pyNext_enum_endD (draws_keys (knd := mixKind X.prog X.w) hh it d ne1 vs _) he ⟨hit, hm⟩ fun h' eb => ⟨rfl, I.turned (t' := s.toks) (fun c o hb q => eb c o hb q) f0 f1 f3 f4 f5⟩
  self := fun A i s Q E st h => let ⟨⟨_, he⟩, _⟩ := st; wpAny_pyIter_enum he h
theorem begins_dict {d : Addr} {o : Obj} {es : Array DictEntry} {ep : Nat} (hs : (d == sysModules) = false) (hx : o.ExactDict) (hd : o.data = .dict es ep) : Begins (.ref d) { cls := .type "dict_keyiterator", data := .fields #[.ref d, .int 0 0, .int es.size 0, .int ep 0] } (fun h => h.get? d = some o) where
  iter := fun prog w A E s Q ho h => iter_keys hs ho hx hd h
  keeps := fun h h' x hk => hk _ _ x
  free := rfl
/-- enumerate(e), e a list, a tuple or a locked dict -/
def iEnumK (K : PySem.W.Frag) (ta : TA) : TI := fun σ H R => ta σ H fun vs H1 => (∃ k a xs, vs = [.ref a] ∧ SqK K k H1 a xs ∧ R (IteG K k a) H1) ∨ ∃ d o kvs, vs = [.ref d] ∧ H1 d = some (.frz o (.dK kvs)) ∧ R (ItdE d o kvs) H1
theorem pi_enumK {X : Cx} {e : Expr} {ta : TA} {p pos tpos : Pos} {elts : List Expr} {kk : Nat} (hg : Gl X "enumerate") (hm : X.mg "enumerate" = none) (ha : PA X [e] ta) (hs : starEach [e] X.env = [(false, eval e X.env)]) :
    PI X (.Tuple elts kk tpos) (.Call (.Name "enumerate" p) [e] [] pos) (iEnumK X.K ta) := by
  refine ⟨fun pins s σ H R I h => ?_⟩
  refine Call_ (ld_blt I hg hm boot_enumerate (PyProof.Rows.callWith_type1 (thn (ha.run pos pins s σ H _ I h) fun us s1 got => ?_) hs rfl))
  obtain ⟨vs, H1, I1, r1, got⟩ := got
  have low : ∀ c, c = s1.heap.objs.size + 1 ∨ c = s1.heap.objs.size → s1.heap.objs.size ≤ c := fun c z => by rcases z with z | z <;> omega
  rcases got with ⟨k, a, xs, ex, hq, q⟩ | ⟨d, o, kvs, ex, hd, q⟩
  · subst ex
    cases r1 with
    | cons r rr =>
      cases rr
      cases r
      obtain ⟨its, rv, p1, la⟩ := sqk I1 hq
      refine enum_call1 (begins (k := k)) p1 fun h' he hit hsz hk => wpAny_pyIter_enum he ?_
      have I2 : Inv X pins σ H1 { s1 with heap := h' } := I1.kept (t' := s1.toks) hk
      exact ⟨s1.heap.objs.size + 1, [s1.heap.objs.size + 1, s1.heap.objs.size], _, _, H1, rfl, I2, turn_enumG (k := k) a (s1.heap.objs.size + 1) s1.heap.objs.size, ⟨⟨.none, he⟩, itO_at hit, Nat.succ_ne_self _⟩, fun c hcm => I1.fpOk (low c (by simpa using hcm)) (I1.hok.fresh (low c (by simpa using hcm))), q⟩
  · subst ex
    cases r1 with
    | cons r rr =>
      cases rr
      cases r
      obtain ⟨hs, hgd, hx, es, ep, vs, hdt, hsz, kv, hm⟩ := I1.frzK hd
      refine enum_call1 (begins_dict hs hx hdt) hgd fun h' he hit hsz2 hk => wpAny_pyIter_enum he ?_
      have I2 : Inv X pins σ H1 { s1 with heap := h' } := I1.kept (t' := s1.toks) hk
      refine ⟨s1.heap.objs.size + 1, [s1.heap.objs.size + 1, s1.heap.objs.size], _, _, H1, rfl, I2, turn_enumK d (s1.heap.objs.size + 1) s1.heap.objs.size hdt, ⟨⟨.none, he⟩, ⟨_, hit, rfl, ?_⟩, Nat.succ_ne_self _⟩, fun c hcm => I1.fpOk (low c (by simpa using hcm)) (I1.hok.fresh (low c (by simpa using hcm))), q⟩
      rw [hsz]; rfl
end Vp
namespace Vp
open PySem PySem.Spec PyProof.Rows L2

section
variable {K : PySem.W.Frag} {F : Hp} {d : Addr} {o : Obj} {ws : List (Key × V)} {ks : List Key} {ds : List D}
theorem kV_rep (k : Key) : Rep K F (kV k) (kD k) := by cases k <;> first | exact .int _ | exact .str _
theorem dic_get (hk : ws.map (·.1) = ks) (r : RepL K F (ws.map (·.2)) ds) {i : Nat} {k : Key} {v : V} (h : ws[i]? = some (k, v)) : ks[i]? = some k ∧ ∃ dv, ds[i]? = some dv ∧ Rep K F v dv := by
  refine ⟨by rw [← hk, List.getElem?_map, h]; rfl, ?_⟩
  obtain ⟨dv, h1, h2⟩ := r.getV (i := i) (v := v) (by rw [List.getElem?_map, h]; rfl)
  exact ⟨dv, h1, h2⟩
theorem dic_len (hk : ws.map (·.1) = ks) (r : RepL K F (ws.map (·.2)) ds) : ks.length = ws.length ∧ ds.length = ws.length := by
  have := r.length
  rw [List.length_map] at this
  exact ⟨by rw [← hk, List.length_map], this.symm⟩
theorem walks_items (h : F d = some (.frz o (.dK ws))) (hk : ws.map (·.1) = ks) (r : RepL K F (ws.map (·.2)) ds) : Walks K F (Iti d o ws) (List.zipWith prD (ks.map kD) ds) where
  go := fun i H e hi => by
    obtain ⟨l1, l2⟩ := dic_len hk r
    exact ⟨e _ _ h, by simpa [l1, l2] using hi⟩
  stop := fun H e => by
    obtain ⟨l1, l2⟩ := dic_len hk r
    exact ⟨e _ _ h, by simp [l1, l2]⟩
  yld := fun i dd H x H' F' M e s hd y => by
    obtain ⟨T, k, v, hkv, rfl, hT, rfl⟩ := y
    obtain ⟨h1, dv, h2, rv⟩ := dic_get hk r hkv
    have : dd = prD (kD k) dv := by
      rw [List.getElem?_zipWith, List.getElem?_map, h1, h2] at hd
      exact (Option.some.inj hd).symm
    subst this
    exact ⟨_, s.newF hT _, new_tup s hT (.cons (kV_rep k) (.cons (rv.mono e) .nil))⟩
theorem walks_keys (h : F d = some (.frz o (.dK ws))) (hk : ws.map (·.1) = ks) (r : RepL K F (ws.map (·.2)) ds) : Walks K F (Itk d o ws) (ks.map kD) where
  go := fun i H e hi => by
    obtain ⟨l1, l2⟩ := dic_len hk r
    exact ⟨e _ _ h, by simpa [l1] using hi⟩
  stop := fun H e => by
    obtain ⟨l1, l2⟩ := dic_len hk r
    exact ⟨e _ _ h, by simp [l1]⟩
  yld := fun i dd H x H' F' M e s hd y => by
    obtain ⟨rfl, k, v, hkv, rfl⟩ := y
    obtain ⟨h1, dv, h2, rv⟩ := dic_get hk r hkv
    have : dd = kD k := by
      rw [List.getElem?_map, h1] at hd
      exact (Option.some.inj hd).symm
    subst this
    exact ⟨F', Step.refl s, kV_rep k⟩
theorem walks_enumD (h : F d = some (.frz o (.dK ws))) (hk : ws.map (·.1) = ks) (r : RepL K F (ws.map (·.2)) ds) : Walks K F (ItdE d o ws) (ks.zipIdx.map fun p => prD (.int (p.2 : Nat)) (kD p.1)) where
  go := fun i H e hi => by
    obtain ⟨l1, l2⟩ := dic_len hk r
    exact ⟨e _ _ h, by simpa [l1] using hi⟩
  stop := fun H e => by
    obtain ⟨l1, l2⟩ := dic_len hk r
    exact ⟨e _ _ h, by simp [l1]⟩
  yld := fun i dd H x H' F' M e s hd y => by
    obtain ⟨T, k, v, hkv, rfl, hT, rfl⟩ := y
    obtain ⟨h1, dv, h2, rv⟩ := dic_get hk r hkv
    have : dd = prD (.int (i : Nat)) (kD k) := by
      rw [List.getElem?_map, List.getElem?_zipIdx, h1] at hd
      simp at hd
      exact hd.symm
    subst this
    exact ⟨_, s.newF hT _, new_tup s hT (.cons (.int _) (.cons (kV_rep k) .nil))⟩
end
section
variable {X : Cx} {W : WX} {tg a b : Expr} {wa wb : VE} {p pos : Pos}
theorem di_items {elts : List Expr} {kk : Nat} {tpos apos : Pos} (h1 : attrOk a = true) (hl : (apos.endLine == pos.line) = true) (ha : PE X a (tE X.K W wa)) :
    PI X (.Tuple elts kk tpos) (.Call (.Attribute a "items" apos) [] [] pos) (tI X.K W fun ρ M Q X' => wa ρ M (fun x M1 => ∃ ks ds, x = .dic ks ds ∧ Q (List.zipWith prD (ks.map kD) ds) M1) X') := by
  refine PI.weak (pi_items ha (attrOk_ok h1) hl) fun σ H R h => ?_
  obtain ⟨F, M, ρ, Q', X', s, r, h, pr, px⟩ := h
  refine ⟨F, M, ρ, _, X', s, r, h, fun d1 M1 ⟨ks, ds, e, q⟩ F1 H1 v1 st1 r1 => ?_, px⟩
  subst e
  cases r1 with
  | @dic c o ws _ _ h3 hk rl => exact ⟨c, o, ws, rfl, st1.fh _ _ h3, pr _ M1 q F1 H1 _ st1 (walks_items h3 hk rl)⟩
theorem di_keys (ha : PE X a (tE X.K W wa)) : PI X tg a (tI X.K W fun ρ M Q X' => wa ρ M (fun x M1 => ∃ ks ds, x = .dic ks ds ∧ Q (ks.map kD) M1) X') := by
  refine PI.weak (pi_keys ha) fun σ H R h => ?_
  obtain ⟨F, M, ρ, Q', X', s, r, h, pr, px⟩ := h
  refine ⟨F, M, ρ, _, X', s, r, h, fun d1 M1 ⟨ks, ds, e, q⟩ F1 H1 v1 st1 r1 => ?_, px⟩
  subst e
  cases r1 with
  | @dic c o ws _ _ h3 hk rl => exact ⟨c, o, rfl, .inl ⟨ws, st1.fh _ _ h3, pr _ M1 q F1 H1 _ st1 (walks_keys h3 hk rl)⟩⟩
theorem di_enumK {elts : List Expr} {kk : Nat} {tpos : Pos} (hg : Gl X "enumerate") (hm : X.mg "enumerate" = none) (hs : noStar a = true) (ha : PE X a (tE X.K W wa)) :
    PI X (.Tuple elts kk tpos) (.Call (.Name "enumerate" p) [a] [] pos) (tI X.K W fun ρ M Q X' => wa ρ M (fun x M1 => (∃ xs, seqF x = some xs ∧ Q (xs.zipIdx.map fun p => prD (.int (p.2 : Nat)) p.1) M1) ∨ ∃ ks ds, x = .dic ks ds ∧ Q (ks.zipIdx.map fun p => prD (.int (p.2 : Nat)) (kD p.1)) M1) X') := by
  refine PI.weak (pi_enumK hg hm (pa_cons ha pa_nil (star_cons hs)) (star_cons hs)) fun σ H R h => ?_
  obtain ⟨F, M, ρ, Q', X', s, r, h, pr, px⟩ := h
  refine ⟨F, M, ρ, _, X', s, r, h, fun d1 M1 hq F1 H1 v1 st1 r1 => ?_, px⟩
  rcases hq with ⟨xs, e, q⟩ | ⟨ks, ds, e, q⟩
  · obtain ⟨c, us, k, rfl, h1, rl⟩ := seqF_rep r1 e
    exact .inl ⟨k, c, us, rfl, sqk_ex st1.fh h1, pr _ M1 q F1 H1 _ st1 (walks_enum h1 rl)⟩
  · subst e
    cases r1 with
    | @dic c o ws _ _ h3 hk rl => exact .inr ⟨c, o, ws, rfl, st1.fh _ _ h3, pr _ M1 q F1 H1 _ st1 (walks_enumD h3 hk rl)⟩
/-! ### a dict that changes no more -/
theorem put_rep {K : PySem.W.Frag} {F : Hp} {f : Str} {a : Addr} {d : D} (rd : Rep K F (.ref a) d) : ∀ {ws : List (Str × V)} {fs : List (Str × D)}, ws.map (·.1) = fs.map (·.1) → RepL K F (ws.map (·.2)) (fs.map (·.2)) → fs.lookup f = some (.ref a) → ws.map (·.1) = (putFD f d fs).map (·.1) ∧ RepL K F (ws.map (·.2)) ((putFD f d fs).map (·.2))
  | [], [], _, _, h => by cases h
  | [], _ :: _, h, _, _ => by simp at h
  | _ :: _, [], h, _, _ => by simp at h
  | (x, v) :: ws, (y, e) :: fs, h, r, hl => by
    simp only [List.map_cons, List.cons.injEq] at h
    obtain ⟨h1, h2⟩ := h
    subst h1
    rw [List.map_cons, List.map_cons] at r
    cases r with
    | cons r1 r2 =>
      unfold putFD
      by_cases z : x = f
      · subst z
        rw [if_pos rfl]
        simp only [List.lookup, beq_self_eq_true] at hl
        cases hl
        cases r1
        rw [List.map_cons, List.map_cons, h2]
        exact ⟨rfl, .cons rd r2⟩
      · rw [if_neg z]
        have z' : (f == x) = false := by simpa using fun q => z q.symm
        simp only [List.lookup, z'] at hl
        obtain ⟨j1, j2⟩ := put_rep rd h2 r2 hl
        rw [List.map_cons, List.map_cons, j1]
        exact ⟨rfl, .cons r1 j2⟩
theorem lock_sat {K : PySem.W.Frag} {F H : Hp} {M : Mo} {p q C : Addr} {kvs : List (Key × D)} {f : Str} {fs : List (Str × D)} (s : Sat K F H M) (e : M p = some (.dK kvs)) (eq : M q = some (.ins C fs)) (hl : fs.lookup f = some (.ref p)) : ∃ ws, H p = some (.dK ws) ∧
    ∀ od, Step K F M H (upd F p (.frz od (.dK ws))) (updM (delM M p) q (.ins C (putFD f (.dic (kvs.map (·.1)) (kvs.map (·.2))) fs))) (upd H p (.frz od (.dK ws))) := by
  obtain ⟨f0, ho, hp, ws, rfl, hk, r⟩ := s.m p _ e
  have npq : q ≠ p := fun z => by rw [z, e] at eq; cases eq
  refine ⟨ws, hp, fun od => ?_⟩
  have x := (Ex.refl F).new (o := .frz od (.dK ws)) f0
  have rd : Rep K (upd F p (.frz od (.dK ws))) (.ref p) (.dic (kvs.map (·.1)) (kvs.map (·.2))) := .dic upd_same hk (r.mono x)
  refine ⟨x, fun a u h => ?_, fun a mo h => ?_, fun a u h n => ?_, fun a h n g => ?_, fun a h n => ?_, th_upd⟩
  · by_cases hne : a = p
    · subst hne; rw [upd_same] at h ⊢; exact h
    · rw [upd_ne hne] at h ⊢; exact s.ex a u h
  · have hne : a ≠ p := fun z => by
      subst z
      rw [updM_ne (Ne.symm npq), delM_same] at h; cases h
    by_cases hq : a = q
    · subst hq
      rw [updM_same] at h; cases h
      obtain ⟨f1, ho, h1, dx, us, rfl, k1, r1⟩ := s.m a _ eq
      obtain ⟨j1, j2⟩ := put_rep rd k1 (r1.mono x) hl
      exact ⟨by rw [upd_ne hne]; exact f1, _, by rw [upd_ne hne]; exact h1, dx, us, rfl, j1, j2⟩
    · rw [updM_ne hq, delM_ne hne] at h
      obtain ⟨f1, ho, h1, r1⟩ := s.m a mo h
      exact ⟨by rw [upd_ne hne]; exact f1, ho, by rw [upd_ne hne]; exact h1, r1.mono x⟩
  · have hne : a ≠ p := fun z => by rw [z, e] at n; cases n
    rw [upd_ne hne]; exact h
  · have hne : a ≠ p := fun z => by rw [z, e] at n; cases n
    rw [upd_ne hne]; exact g
  · have hne : a ≠ p := fun z => by rw [z, e] at n; cases n
    have hq : a ≠ q := fun z => by rw [z, eq] at n; cases n
    rw [updM_ne hq, delM_ne hne]; exact n
end
end Vp
namespace Vp
open PySem PySem.Spec PyProof.Rows L2

/-- {k: v for target in iter} -/
theorem de_dcomp {X : Cx} {W : WX} {t : Tg} {own : List (Str × Nat)} {wi : WL} {wy wv : VE} (ho : own.map (·.2) = slotsT t) :
    ∀ σ H Q, tE X.K W (fun ρ M Q X' => wi ρ M (fun ds M1 => ds.length ≤ 16777216 ∧ vDcomp wy wv t ρ ds [] M1 (fun acc M2 => ∀ p, M2 p = none → Q (.ref p) (updM M2 p (.dK acc)))) X') σ H Q →
      tDc (tI X.K W wi) (tG X.K t) (tT X.K W0 fun _ M Q _ => Q true M) (tE X.K W0 wy) (tE X.K W0 wv) (own.map (·.2)) σ H Q := by
  intro σ H Q h
  obtain ⟨F, M, ρ, Q', X', s, re, h, pv, px⟩ := h
  rw [ho]
  refine ⟨F, M, ρ, _, X', s, re, h, fun ds M1 ⟨hz, hw⟩ F1 H1 J st1 wk => ?_, px⟩
  intro D hD
  obtain ⟨fD, mD⟩ := st1.sat.none hD
  let Qf : List (Key × Vp.D) → Mo → Prop := fun acc M2 => ∀ p, M2 p = none → Q' (.ref p) (updM M2 p (.dK acc))
  let St2 : Hp → Nat → Prop := fun H' i => ∃ F2 M2 accV acc, Step X.K F1 M1 H1 F2 M2 H' ∧ F2 D = none ∧ M2 D = none ∧ H' D = some (.dK accV) ∧ accV.map (·.1) = acc.map (·.1) ∧ RepL X.K F2 (accV.map (·.2)) (acc.map (·.2)) ∧ acc.length ≤ i ∧ vDcomp wy wv t ρ (ds.drop i) acc M2 Qf
  refine ⟨fun i mm H' => mm = ds.length - i ∧ i ≤ ds.length ∧ St2 H' i, ⟨ds.length, by simp, Nat.zero_le _, F1, M1, [], [], st1.sat.newH hD _, fD, mD, upd_same, rfl, .nil, Nat.le_refl _, hw⟩, ?_⟩
  rintro i mm H2 ⟨rfl, hi2, F2, M2, accV, acc, st2, fD2, mD2, hD2, hk2, ra, hla, hw2⟩
  by_cases hlt : i < ds.length
  · refine .inr ⟨wk.go i H2 (st2.ff.trans st2.fh) hlt, fun H' => St2 H' (i + 1), fun H' n => ⟨ds.length - (i + 1), by omega, rfl, hlt, n⟩, fun x H3 y => ?_⟩
    have hd : ds[i]? = some ds[i] := List.getElem?_eq_getElem hlt
    obtain ⟨F3, st3, rx⟩ := wk.yld i ds[i] H2 x H3 F2 M2 st2.ff st2.sat hd y
    rw [List.drop_eq_getElem_cons hlt] at hw2
    obtain ⟨ρ', hb, hw3⟩ := hw2
    have stA := st2.trans st3
    have nD2 : H2 D ≠ none := by rw [hD2]; simp
    have fD3 : F3 D = none := st3.newF D nD2 mD2 fD2
    have hD3 : H3 D = some (.dK accV) := st3.keep D _ hD2 mD2
    refine ⟨F3, ds[i], wipeR ρ (slotsT t), ρ', st3.fh, rx, (re.mono (st1.ff.trans stA.ff)).wipe _, hb, fun σ2 re2 w2 => ⟨?_, ?_⟩⟩
    · rw [w2 (slotsT t) fun j hj => hj]
      exact wipe_idem _
    · refine ⟨F3, M2, ρ', (fun b M' => b = true ∧ M' = M2), noX, st3.sat, re2, ⟨rfl, rfl⟩, fun b M4 hb4 F4 H4 st4 => ?_, px0⟩
      obtain ⟨rfl, rfl⟩ := hb4
      have nD3 : H3 D ≠ none := by rw [hD3]; simp
      have fD4 : F4 D = none := st4.newF D nD3 mD2 fD3
      have hD4 : H4 D = some (.dK accV) := st4.keep D _ hD3 mD2
      have stB := stA.trans st4
      refine iteT ⟨F4, _, ρ', _, noX, st4.sat, re2.mono st4.ff, hw3, fun y M5 hy F5 H5 yv st5 ry => ?_, px0⟩
      have nD4 : H4 D ≠ none := by rw [hD4]; simp
      have fD5 : F5 D = none := st5.newF D nD4 mD2 fD4
      have mD5 : M5 D = none := st5.newM D nD4 mD2
      have hD5 : H5 D = some (.dK accV) := st5.keep D _ hD4 mD2
      refine ⟨F5, M5, ρ', _, noX, st5.sat, (re2.mono st4.ff).mono st5.ff, hy, fun z M6 hz6 F6 H6 zv st6 rz => ?_, px0⟩
      obtain ⟨k, hk, hw6⟩ := hz6
      have nD5 : H5 D ≠ none := by rw [hD5]; simp
      have fD6 : F6 D = none := st6.newF D nD5 mD5 fD5
      have mD6 : M6 D = none := st6.newM D nD5 mD5
      have hD6 : H6 D = some (.dK accV) := st6.keep D _ hD5 mD5
      have ra6 := ra.mono (((st3.ff.trans st4.ff).trans st5.ff).trans st6.ff)
      obtain ⟨k1, k2⟩ := putK_rep (k := k) hk2 ra6 rz
      have hl : accV.length = acc.length := by
        have := congrArg List.length hk2
        rwa [List.length_map, List.length_map] at this
      have hl2 : (putD acc k z).length ≤ i + 1 := by
        have h1 := length_putK accV k zv
        have h2 := congrArg List.length k1
        rw [List.length_map, List.length_map] at h2
        omega
      refine ⟨accV, k, key_rep ry hk, hD6, by rw [hl, sizeLine_eq]; omega, F6, M6, putK accV k zv, putD acc k z, ((stB.trans st5).trans st6).poke hD fD6 mD6, fD6, mD6, upd_same, k1, k2, hl2, hw6⟩
  · have e : i = ds.length := by omega
    subst e
    rw [List.drop_length] at hw2
    refine .inl ⟨wk.stop H2 (st2.ff.trans st2.fh), ?_⟩
    exact (pv.step st1) _ _ (hw2 D mD2) F2 H2 _ (st2.adoptM hD fD2 (mo := .dK acc) hD2 ⟨accV, rfl, hk2, ra⟩) (.ref D)
end Vp
namespace Vp
open PySem PySem.Spec PyProof.Rows L2

/-! ### texts: find from a place, count, rfind, split (not yet in the language: the rules alone) -/
section
variable {X : Cx} {W : WX} {o y z : Expr} {wo wy wz : VE} {apos pos : Pos}
/-- a text's method with one text, that gives an integer -/
theorem de_tx1 {id : String} {name : Str} {g : Str → Str → Int} (slot : Slot "str" name id) (ty : typeOf (.builtin id) = pure (.type "method_descriptor")) (rule : MtR X id (fun x xs H Q => ∃ a b, x = .str a ∧ xs = [.str b] ∧ Q (.int (g a b)) H))
    (h1 : ∀ env, attributeBase o name env (eval o env) = eval o env) (h2 : noStar y = true) (hl : (apos.endLine == pos.line) = true) (ho : PE X o (tE X.K W wo)) (hy : PE X y (tE X.K W wy)) :
    PE X (.Call (.Attribute o name apos) [y] [] pos) (tE X.K W fun ρ M Q X' => wo ρ M (fun u M1 => (∃ a, u = .str a) ∧ wy ρ M1 (fun v M2 => ∃ a b, u = .str a ∧ v = .str b ∧ Q (.int (g a b)) M2) X') X') := by
  refine PE.weak (pe_m1 slot ty rule ho hy (by rw [star_cons h2]; rfl) (h1 _) hl) fun σ H Q h => ?_
  obtain ⟨F, M, ρ, Q', X', s, r, h, pv, px⟩ := h
  refine ⟨F, M, ρ, _, X', s, r, h, fun u M1 ⟨⟨a, ea⟩, h2⟩ F1 H1 v1 st1 r1 => ?_, px⟩
  subst ea
  cases r1
  refine ⟨⟨a, rfl⟩, F1, M1, ρ, _, X', st1.sat, r.mono st1.ff, h2, fun v M2 ⟨a', b, e1, e2, q⟩ F2 H2 v2 st2 r2 => ?_, px.step st1⟩
  cases e1
  subst e2
  cases r2
  exact ⟨a, b, rfl, rfl, (pv.step (st1.trans st2)).here st2.sat q (.int _)⟩
/-- the parts between a sign, a new list seen by value -/
theorem de_split (h1 : ∀ env, attributeBase o "split" env (eval o env) = eval o env) (h2 : noStar y = true) (hl : (apos.endLine == pos.line) = true) (ho : PE X o (tE X.K W wo)) (hy : PE X y (tE X.K W wy)) :
    PE X (.Call (.Attribute o "split" apos) [y] [] pos) (tE X.K W fun ρ M Q X' => wo ρ M (fun u M1 => (∃ a, u = .str a) ∧ wy ρ M1 (fun v M2 => ∃ a b, u = .str a ∧ v = .str b ∧ (b.length == 0) = false ∧ a.length + 2 ≤ sizeLine ∧ Q (.lst ((Txt.split a b).map .str)) M2) X') X') := by
  refine PE.weak (pe_split ho hy (by rw [star_cons h2]; rfl) (h1 _) hl) fun σ H Q h => ?_
  obtain ⟨F, M, ρ, Q', X', s, r, h, pv, px⟩ := h
  refine ⟨F, M, ρ, _, X', s, r, h, fun u M1 ⟨⟨a, ea⟩, h2⟩ F1 H1 v1 st1 r1 => ?_, px⟩
  subst ea
  cases r1
  refine ⟨⟨a, rfl⟩, F1, M1, ρ, _, X', st1.sat, r.mono st1.ff, h2, fun v M2 ⟨a', b, e1, e2, hb, hz, q⟩ F2 H2 v2 st2 r2 => ?_, px.step st1⟩
  cases e1
  subst e2
  cases r2
  refine ⟨a, b, rfl, rfl, hb, hz, fun p hp => ?_⟩
  have rr : ∀ ys : List Str, RepL X.K F2 (ys.map V.str) (ys.map D.str) := fun ys => by
    induction ys with
    | nil => exact .nil
    | cons y ys ih => exact .cons (.str y) ih
  exact (pv.step (st1.trans st2)).fresh st2.sat (d := .lst ((Txt.split a b).map .str)) q hp (new_lst st2.sat hp (rr _))
/-- where a text stands in another, from a place on -/
theorem de_find3 (h1 : attrOk o = true) (h2 : noStar y = true) (h3 : noStar z = true) (hl : (apos.endLine == pos.line) = true) (ho : PE X o (tE X.K W wo)) (hy : PE X y (tE X.K W wy)) (hz : PE X z (tE X.K W wz)) :
    PE X (.Call (.Attribute o "find" apos) [y, z] [] pos) (tE X.K W fun ρ M Q X' => wo ρ M (fun u M1 => (∃ a, u = .str a) ∧ wy ρ M1 (fun v M2 => wz ρ M2 (fun w M3 => ∃ a b i, u = .str a ∧ v = .str b ∧ w = .int i ∧ Q (.int (Txt.find3 a b i)) M3) X') X') X') := by
  refine PE.weak (pe_bm PySem.F.plainAttrs_str PySem.F.slot_str_find PySem.F.type_str_find mt_find3 ho (pa_cons hy (pa_cons hz pa_nil (star_cons h3)) (star_cons h2)) (attrOk_ok h1) (by rw [star_cons h2, star_cons h3]; rfl) hl (star_cons h2) (by rw [star_cons h3]; rfl)) fun σ H Q h => ?_
  obtain ⟨F, M, ρ, Q', X', s, r, h, pv, px⟩ := h
  refine ⟨F, M, ρ, _, X', s, r, h, fun u M1 ⟨⟨a, ea⟩, h2⟩ F1 H1 v1 st1 r1 => ?_, px⟩
  subst ea
  cases r1
  refine ⟨rfl, F1, M1, ρ, _, X', st1.sat, r.mono st1.ff, h2, fun v M2 h3 F2 H2 v2 st2 r2 => ?_, px.step st1⟩
  refine ⟨F2, M2, ρ, _, X', st2.sat, r.mono (st1.trans st2).ff, h3, fun w M3 ⟨a', b, i, e1, e2, e3, q⟩ F3 H3 v3 st3 r3 => ?_, px.step (st1.trans st2)⟩
  cases e1
  subst e2
  subst e3
  cases r3
  cases r2
  exact ⟨a, b, i, rfl, rfl, (pv.step ((st1.trans st2).trans st3)).here st3.sat q (.int _)⟩
theorem strs_inv {K : PySem.W.Frag} {F : Hp} : ∀ {ys : List Str} {vs : List V}, RepL K F vs (ys.map D.str) → vs = ys.map V.str
  | [], _, .nil => rfl
  | y :: ys, _, .cons r t => by
    cases r
    rw [List.map_cons, strs_inv t]
/-- a list of texts, joined -/
theorem de_join (h1 : ∀ env, attributeBase o "join" env (eval o env) = eval o env) (h2 : noStar y = true) (hl : (apos.endLine == pos.line) = true) (ho : PE X o (tE X.K W wo)) (hy : PE X y (tE X.K W wy)) :
    PE X (.Call (.Attribute o "join" apos) [y] [] pos) (tE X.K W fun ρ M Q X' => wo ρ M (fun u M1 => (∃ a, u = .str a) ∧ wy ρ M1 (fun v M2 => ∃ a ys, u = .str a ∧ seqL' M2 v = some (ys.map .str) ∧ (ys.map (·.length)).sum + ys.length * a.length ≤ 16777216 ∧ Q (.str (Txt.join a ys)) M2) X') X') := by
  refine PE.weak (pe_join ho hy (by rw [star_cons h2]; rfl) (h1 _) hl) fun σ H Q h => ?_
  obtain ⟨F, M, ρ, Q', X', s, r, h, pv, px⟩ := h
  refine ⟨F, M, ρ, _, X', s, r, h, fun u M1 ⟨⟨a, ea⟩, h2⟩ F1 H1 v1 st1 r1 => ?_, px⟩
  subst ea
  cases r1
  refine ⟨⟨a, rfl⟩, F1, M1, ρ, _, X', st1.sat, r.mono st1.ff, h2, fun v M2 ⟨a', ys, e1, e2, hz, q⟩ F2 H2 v2 st2 r2 => ?_, px.step st1⟩
  cases e1
  obtain ⟨p, xs, rfl, rl, hs⟩ := lst_rep st2.sat r2 e2
  have hxs : xs = ys.map V.str := strs_inv rl
  subst hxs
  exact ⟨a, p, ys, rfl, rfl, .inl hs, hz, (pv.step (st1.trans st2)).here st2.sat q (.str _)⟩
end
end Vp
namespace Vp
open PySem PySem.Spec PyProof.Rows L2

theorem ne_of_isEmpty {α : Type} {ys : List α} (h : (!ys.isEmpty) = true) : ∃ y r, ys = y :: r := by
  cases ys with
  | nil => cases h
  | cons y r => exact ⟨y, r, rfl⟩
theorem mem_of {α : Type} {l : List α} {k : Nat} {x : α} (h : l[k]? = some x) : x ∈ l := List.mem_of_getElem? h
theorem hot_of {X : Cx} {Γ : Gam} {W : WX} {c : SC} (h : XO X Γ W c) (n : c.fns ≠ [] ∨ c.mks ≠ [] ∨ c.mts ≠ [] ∨ c.kms ≠ [] ∨ c.calm = true) : c.hot = false := by
  cases e : c.hot with
  | false => rfl
  | true =>
    obtain ⟨a, b, d, f, g, _⟩ := h.hotn e
    rcases n with n | n | n | n | n
    · exact absurd a n
    · exact absurd b n
    · exact absurd d n
    · exact absurd f n
    · rw [g] at n; cases n
theorem fn_at {X : Cx} {Γ : Gam} {W : WX} {c : SC} (h : XO X Γ W c) {k : Nat} {x : Str} (e : c.fns[k]? = some x) : ∃ g j, Γ.fns[k]? = some g ∧ g.name = x ∧ Room j X.A ∧ FnIs X j g := by
  have ne : c.fns ≠ [] := fun z => by rw [z] at e; cases e
  rw [h.fns ne, List.getElem?_map] at e
  cases e1 : Γ.fns[k]? with
  | none => rw [e1] at e; cases e
  | some g =>
    rw [e1] at e
    obtain ⟨j, r, f, _⟩ := h.room
    exact ⟨g, j, rfl, Option.some.inj e, r (hot_of h (.inl ne)), f ne g (mem_of e1)⟩
theorem mk_at {X : Cx} {Γ : Gam} {W : WX} {c : SC} (h : XO X Γ W c) {k : Nat} {x : Str} (e : c.mks[k]? = some x) : ∃ g j, Γ.mks[k]? = some g ∧ g.name = x ∧ Room j X.A ∧ MkIs X j g := by
  have ne : c.mks ≠ [] := fun z => by rw [z] at e; cases e
  rw [h.mks ne, List.getElem?_map] at e
  cases e1 : Γ.mks[k]? with
  | none => rw [e1] at e; cases e
  | some g =>
    rw [e1] at e
    obtain ⟨j, r, _, f, _⟩ := h.room
    exact ⟨g, j, rfl, Option.some.inj e, r (hot_of h (.inr (.inl ne))), f ne g (mem_of e1)⟩
theorem mt_at {X : Cx} {Γ : Gam} {W : WX} {c : SC} (h : XO X Γ W c) {k : Nat} {x : Str} (e : c.mts[k]? = some x) : ∃ g j, Γ.mts[k]? = some g ∧ g.name = x ∧ Room j X.A ∧ MtIs X j g := by
  have ne : c.mts ≠ [] := fun z => by rw [z] at e; cases e
  rw [h.mts ne, List.getElem?_map] at e
  cases e1 : Γ.mts[k]? with
  | none => rw [e1] at e; cases e
  | some g =>
    rw [e1] at e
    obtain ⟨j, r, _, _, f, _⟩ := h.room
    exact ⟨g, j, rfl, Option.some.inj e, r (hot_of h (.inr (.inr (.inl ne)))), f ne g (mem_of e1)⟩
theorem km_at {X : Cx} {Γ : Gam} {W : WX} {c : SC} (h : XO X Γ W c) {k : Nat} {x : Str} {ks : List Str} (e : c.kms[k]? = some (x, ks)) : ∃ g j, Γ.kms[k]? = some g ∧ g.name = x ∧ g.ks = ks ∧ Room j X.A ∧ KmIs X j g := by
  have ne : c.kms ≠ [] := fun z => by rw [z] at e; cases e
  rw [h.kms ne, List.getElem?_map] at e
  cases e1 : Γ.kms[k]? with
  | none => rw [e1] at e; cases e
  | some g =>
    rw [e1] at e
    obtain ⟨j, r, _, _, _, f, _⟩ := h.room
    cases Option.some.inj e
    exact ⟨g, j, rfl, rfl, rfl, r (hot_of h (.inr (.inr (.inr (.inl ne))))), f ne g (mem_of e1)⟩
theorem xc_at {X : Cx} {Γ : Gam} {W : WX} {c : SC} (h : XO X Γ W c) {k : Nat} {x : Str} (e : c.xcs[k]? = some x) : ∃ g, Γ.xcs[k]? = some g ∧ g.name = x := by
  rw [h.xcs, List.getElem?_map] at e
  cases e1 : Γ.xcs[k]? with
  | none => rw [e1] at e; cases e
  | some g =>
    rw [e1] at e
    exact ⟨g, rfl, Option.some.inj e⟩
theorem cs_at {X : Cx} {Γ : Gam} {W : WX} {c : SC} (h : XO X Γ W c) {k : Nat} {x : Str} (e : c.cs[k]? = some x) : ∃ d, Γ.cs[k]? = some (x, d) ∧ CsIs X (x, d) := by
  rw [h.cs, List.getElem?_map] at e
  cases e1 : Γ.cs[k]? with
  | none => rw [e1] at e; cases e
  | some g =>
    rw [e1] at e
    obtain ⟨y, d⟩ := g
    cases Option.some.inj e
    exact ⟨d, rfl, h.csOk _ (mem_of e1)⟩
theorem dts_nil {X : Cx} {W : WX} : PTs X [] (tT X.K W fun _ M Q _ => Q true M) := by
  refine PTs.weak pts_nil fun σ H Q h => ?_
  obtain ⟨F, M, ρ, Q', X', s, r, h, pb, px⟩ := h
  exact pb _ _ h F H (Step.refl s)
section
variable {Γ : Gam}
mutual
theorem sE : ∀ (e : E) (c : SC) (X : Cx) (W : WX) (x : Expr), XO X Γ W c → isE c e x = true → PE X x (tE X.K W (vE Γ e))
  | .var i, c, X, W, x, hx, h => by
    unfold isE at h
    cases e : dName x with
    | none => simp only [e] at h; cases h
    | some n =>
      simp only [e] at h
      obtain ⟨p, rfl⟩ := dName_inv e
      obtain ⟨h1, g2⟩ := and2 h
      obtain ⟨h2, h3⟩ := and2 g2
      exact de_var (by rw [hx.hN]; exact of_decide_eq_true h1) (by rw [hx.sc]; exact visB_ok h2) h3
  | .cint i, c, X, W, x, hx, h => by
    unfold isE at h
    cases e : dConst x with
    | none => simp only [e] at h; cases h
    | some n =>
      simp only [e] at h
      obtain ⟨k, p, rfl⟩ := dConst_inv e
      obtain rfl := of_decide_eq_true h
      exact de_const pe_int fun _ _ => .int i
  | .cstr i, c, X, W, x, hx, h => by
    unfold isE at h
    cases e : dConst x with
    | none => simp only [e] at h; cases h
    | some n =>
      simp only [e] at h
      obtain ⟨k, p, rfl⟩ := dConst_inv e
      obtain rfl := of_decide_eq_true h
      exact de_const pe_str fun _ _ => .str i
  | .cbl i, c, X, W, x, hx, h => by
    unfold isE at h
    cases e : dConst x with
    | none => simp only [e] at h; cases h
    | some n =>
      simp only [e] at h
      obtain ⟨k, p, rfl⟩ := dConst_inv e
      obtain rfl := of_decide_eq_true h
      exact de_const pe_bl fun _ _ => .bl i
  | .cnon, c, X, W, x, hx, h => by
    unfold isE at h
    cases e : dConst x with
    | none => simp only [e] at h; cases h
    | some n =>
      simp only [e] at h
      obtain ⟨k, p, rfl⟩ := dConst_inv e
      obtain rfl := of_decide_eq_true h
      exact de_const pe_non fun _ _ => .non
  | .cty T, c, X, W, x, hx, h => by
    unfold isE at h
    cases e : dName x with
    | none => simp only [e] at h; cases h
    | some n =>
      simp only [e] at h
      obtain ⟨p, rfl⟩ := dName_inv e
      obtain ⟨h1, g2⟩ := and2 h
      obtain ⟨h2, g3⟩ := and2 g2
      obtain ⟨h3, h4⟩ := and2 g3
      exact de_const (pe_bltn (v := .ty T) (glB_ok (by rw [hx.sc]; exact h1)) (hx.bis n (of_decide_eq_true h2)) (tyOk_ok h4) rfl (okNm3 h3) (okNm1 h3)) fun _ _ => .ty T
  | .bin op a b, c, X, W, x, hx, h => by
    unfold isE at h
    cases e : dBin x with
    | none => simp only [e] at h; cases h
    | some n =>
      obtain ⟨u, o, v⟩ := n
      simp only [e] at h
      obtain ⟨p, rfl⟩ := dBin_inv e
      obtain ⟨h1, g2⟩ := and2 h
      obtain ⟨h2, g3⟩ := and2 g2
      obtain ⟨h3, h4⟩ := and2 g3
      obtain rfl := of_decide_eq_true h1
      obtain ⟨r, ho, hl⟩ := binop_ok (X := X) h2
      exact de_op ho hl (sE a c X W u hx h3) (sE b c X W v hx h4)
  | .neg a, c, X, W, x, hx, h => by
    unfold isE at h
    cases e : dUn x with
    | none => simp only [e] at h; cases h
    | some n =>
      obtain ⟨o, u⟩ := n
      simp only [e] at h
      obtain ⟨p, rfl⟩ := dUn_inv e
      obtain ⟨h1, h2⟩ := and2 h
      obtain rfl := of_decide_eq_true h1
      exact de_neg (sE a c X W u hx h2)
  | .cmp op a b, c, X, W, x, hx, h => by
    unfold isE at h
    split at h
    · rename_i u o v e
      obtain ⟨p, rfl⟩ := dCmp_inv e
      obtain ⟨h1, g2⟩ := and2 h
      obtain ⟨h2, g3⟩ := and2 g2
      obtain ⟨h3, g4⟩ := and2 g3
      obtain ⟨h4, h5⟩ := and2 g4
      obtain rfl := of_decide_eq_true h1
      obtain ⟨r, ho, hl⟩ := cmpop_ok (xo_units hx) h2
      exact de_cmp ho hl (noSet_behind h3) (sE a c X W u hx h4) (sE b c X W v hx h5)
    · cases h
  | .chain op op' a b d, c, X, W, x, hx, h => by
    unfold isE at h
    split at h
    · rename_i u o o' v z e
      obtain ⟨p, rfl⟩ := dCmp_inv e
      obtain ⟨h1, g2⟩ := and2 h
      obtain ⟨h2, g3⟩ := and2 g2
      obtain ⟨h3, g4⟩ := and2 g3
      obtain ⟨h4, g5⟩ := and2 g4
      obtain ⟨h5, g6⟩ := and2 g5
      obtain ⟨h6, g7⟩ := and2 g6
      obtain ⟨h7, g8⟩ := and2 g7
      obtain ⟨h8, h9⟩ := and2 g8
      obtain rfl := of_decide_eq_true h1
      obtain rfl := of_decide_eq_true h2
      obtain ⟨r, ho, hl⟩ := cmpop_ok (xo_units hx) h3
      obtain ⟨r', ho', hl'⟩ := cmpop_ok (xo_units hx) h4
      exact de_chain ho hl ho' hl' (noSet_behind h6) (sE a c X W u hx h7) (sE b c X W v hx h8) (sE d c X W z hx h9)
    · cases h
  | .and a b, c, X, W, x, hx, h => by
    unfold isE at h
    cases e : dBool x with
    | none => simp only [e] at h; cases h
    | some n =>
      obtain ⟨o, u, v⟩ := n
      simp only [e] at h
      obtain ⟨y, r, p, rfl, rfl⟩ := dBool_inv e
      obtain ⟨h1, g2⟩ := and2 h
      obtain ⟨h2, h3⟩ := and2 g2
      obtain rfl := of_decide_eq_true h1
      exact de_and (sE a c X W u hx h2) (and_tail (sE b c X W _ hx h3))
  | .or a b, c, X, W, x, hx, h => by
    unfold isE at h
    cases e : dBool x with
    | none => simp only [e] at h; cases h
    | some n =>
      obtain ⟨o, u, v⟩ := n
      simp only [e] at h
      obtain ⟨y, r, p, rfl, rfl⟩ := dBool_inv e
      obtain ⟨h1, g2⟩ := and2 h
      obtain ⟨h2, h3⟩ := and2 g2
      obtain rfl := of_decide_eq_true h1
      exact de_or (sE a c X W u hx h2) (and_tail (sE b c X W _ hx h3))
  | .not a, c, X, W, x, hx, h => by
    unfold isE at h
    cases e : dUn x with
    | none => simp only [e] at h; cases h
    | some n =>
      obtain ⟨o, u⟩ := n
      simp only [e] at h
      obtain ⟨p, rfl⟩ := dUn_inv e
      obtain ⟨h1, h2⟩ := and2 h
      obtain rfl := of_decide_eq_true h1
      exact de_not (sE a c X W u hx h2)
  | .ite t a b, c, X, W, x, hx, h => by
    unfold isE at h
    cases e : dIf x with
    | none => simp only [e] at h; cases h
    | some n =>
      obtain ⟨o, u, v⟩ := n
      simp only [e] at h
      obtain ⟨p, rfl⟩ := dIf_inv e
      obtain ⟨h1, g2⟩ := and2 h
      obtain ⟨h2, h3⟩ := and2 g2
      exact de_ite (sT t c X W o hx h1) (sE a c X W u hx h2) (sE b c X W v hx h3)
  | .tup es, c, X, W, x, hx, h => by
    unfold isE at h
    cases e : dTup x with
    | none => simp only [e] at h; cases h
    | some xs =>
      simp only [e] at h
      obtain ⟨k, p, rfl⟩ := dTup_inv e
      exact de_tup (sEs es c X W xs hx h).1
  | .lst m es, c, X, W, x, hx, h => by
    unfold isE at h
    cases e : dLst x with
    | none => simp only [e] at h; cases h
    | some xs =>
      simp only [e] at h
      obtain ⟨p, rfl⟩ := dLst_inv e
      exact de_lst (sEs es c X W xs hx h).1
  | .call k es, c, X, W, x, hx, h => by
    unfold isE at h
    cases e : dCall x with
    | none => simp only [e] at h; cases h
    | some n =>
      obtain ⟨n, ys⟩ := n
      simp only [e] at h
      obtain ⟨q, p, rfl⟩ := dCall_inv e
      obtain ⟨h1, g2⟩ := and2 h
      obtain ⟨h2, g3⟩ := and2 g2
      obtain ⟨h3, g4⟩ := and2 g3
      obtain ⟨h4, h5⟩ := and2 g4
      obtain ⟨y, r, rfl⟩ := ne_of_isEmpty h4
      obtain ⟨g, j, e1, e2, hr, hf⟩ := fn_at hx (of_decide_eq_true h1)
      obtain ⟨pa, st⟩ := sEs es c X W (y :: r) hx h5
      refine PE.weak (de_call hr hf hx.tk e2 (glB_ok (by rw [hx.sc]; exact h2)) h3 pa st) fun σ H Q h => ?_
      obtain ⟨F, M, ρ, Q', X', s, re, h, pv, px⟩ := h
      refine ⟨F, M, ρ, Q', X', s, re, ?_, pv, px⟩
      have h : vEs Γ es ρ M (fun ds M1 => ∃ g, Γ.fns[k]? = some g ∧ ds.length = g.n ∧ g.con ds M1 Q' X') X' := h
      have : (fun ds M1 => ∃ g, Γ.fns[k]? = some g ∧ ds.length = g.n ∧ g.con ds M1 Q' X') = (fun ds M1 => ds.length = g.n ∧ g.con ds M1 Q' X') := by
        funext ds M1
        rw [e1]
        simp
      rw [this] at h
      exact h
  | .bi b es, c, X, W, x, hx, h => by
    unfold isE at h
    cases e : dCall x with
    | none => simp only [e] at h; cases h
    | some n =>
      obtain ⟨n, ys⟩ := n
      simp only [e] at h
      obtain ⟨q, p, rfl⟩ := dCall_inv e
      obtain ⟨h1, g2⟩ := and2 h
      obtain ⟨h2, g3⟩ := and2 g2
      obtain ⟨h3, g4⟩ := and2 g3
      obtain ⟨h4, g5⟩ := and2 g4
      obtain ⟨h5, g6⟩ := and2 g5
      obtain ⟨h6, h7⟩ := and2 g6
      obtain ⟨y, r, rfl⟩ := ne_of_isEmpty h6
      obtain ⟨pa, st⟩ := sEs es c X W (y :: r) hx h7
      exact de_bi (hx.calm h2) (of_decide_eq_true h1) (glB_ok (by rw [hx.sc]; exact h4)) (hx.bis n (of_decide_eq_true h3)) h5 pa st
  | .callH k es, c, X, W, x, hx, h => by
    unfold isE at h
    cases e : dCall x with
    | none => simp only [e] at h; cases h
    | some n =>
      obtain ⟨n, ys⟩ := n
      simp only [e] at h
      obtain ⟨q, p, rfl⟩ := dCall_inv e
      obtain ⟨h0, g1⟩ := and2 h
      obtain ⟨h1, g2⟩ := and2 g1
      obtain ⟨h2, g3⟩ := and2 g2
      obtain ⟨h3, g4⟩ := and2 g3
      obtain ⟨h4, h5⟩ := and2 g4
      obtain ⟨y, r, rfl⟩ := ne_of_isEmpty h4
      have e0 := of_decide_eq_true h1
      have ne : c.hfs ≠ [] := fun z => by rw [z] at e0; cases e0
      obtain ⟨en, j, hr, hf⟩ := hx.hfs ne
      rw [en, List.getElem?_map] at e0
      obtain ⟨g, e1, e2⟩ : ∃ g, Γ.hfs[k]? = some g ∧ g.name = n := by
        cases e1 : Γ.hfs[k]? with
        | none => rw [e1] at e0; cases e0
        | some g => rw [e1] at e0; exact ⟨g, rfl, Option.some.inj e0⟩
      obtain ⟨pa, st⟩ := sEs es c X W (y :: r) hx h5
      refine PE.weak (de_callH hr (hx.hotc ne h0) (hf g (mem_of e1)) e2 (glB_ok (by rw [hx.sc]; exact h2)) h3 pa st) fun σ H Q h => ?_
      obtain ⟨F, M, ρ, Q', X', s, re, h, pv, px⟩ := h
      refine ⟨F, M, ρ, Q', X', s, re, ?_, pv, px⟩
      have h : vEs Γ es ρ M (fun ds M1 => ∃ g, Γ.hfs[k]? = some g ∧ ds.length = g.n ∧ g.con ds M1 Q' noX) X' := h
      have : (fun ds M1 => ∃ g, Γ.hfs[k]? = some g ∧ ds.length = g.n ∧ g.con ds M1 Q' noX) = (fun ds M1 => ds.length = g.n ∧ g.con ds M1 Q' noX) := by
        funext ds M1
        rw [e1]
        simp
      rw [this] at h
      exact h
  | .biN b es, c, X, W, x, hx, h => by
    unfold isE at h
    cases e : dCall x with
    | none => simp only [e] at h; cases h
    | some n =>
      obtain ⟨n, ys⟩ := n
      simp only [e] at h
      obtain ⟨q, p, rfl⟩ := dCall_inv e
      obtain ⟨h1, g2⟩ := and2 h
      obtain ⟨h2, g3⟩ := and2 g2
      obtain ⟨h3, g4⟩ := and2 g3
      obtain ⟨h4, g5⟩ := and2 g4
      obtain ⟨h5, g6⟩ := and2 g5
      obtain ⟨h6, h7⟩ := and2 g6
      obtain ⟨y, r, rfl⟩ := ne_of_isEmpty h6
      obtain ⟨pa, st⟩ := sEs es c X W (y :: r) hx h7
      have br : BiRun X b := by
        simp only [Bool.or_eq_true, decide_eq_true_eq] at h2
        rcases h2 with rfl | rfl | h2
        · exact .fn "isinstance" _ call_isi cl_isinst (by decide +kernel)
        · exact .fn "len" _ (call_len_str.or call_len_seq) cl_len (by decide +kernel)
        · obtain ⟨h8, h9⟩ := and2 h2
          obtain ⟨h10, h11⟩ := and2 h9
          obtain rfl := of_decide_eq_true h8
          exact .fn "all" _ (cr_allH (hx.hotc (fun z => by rw [z] at h11; cases h11) h10)) cl_all (by decide +kernel)
      exact de_biR br (of_decide_eq_true h1) (glB_ok (by rw [hx.sc]; exact h4)) (hx.bis n (of_decide_eq_true h3)) h5 pa st
  | .compH elt tg e', c, X, W, x, hx, h => by
    unfold isE at h
    split at h
    · rename_i u t n q y p2 scope e
      obtain ⟨p, rfl⟩ := dComp_inv e
      obtain ⟨h0, g1⟩ := and2 h
      obtain ⟨h1, g2⟩ := and2 g1
      obtain ⟨h2, g3⟩ := and2 g2
      obtain ⟨h3, g4⟩ := and2 g3
      obtain ⟨h4, g5⟩ := and2 g4
      obtain ⟨h5, g6⟩ := and2 g5
      obtain ⟨h6, g7⟩ := and2 g6
      obtain ⟨h7, g8⟩ := and2 g7
      obtain ⟨h8, g9⟩ := and2 g8
      obtain ⟨h9, h10⟩ := and2 g9
      obtain rfl := of_decide_eq_true h2
      have ne : c.hfs ≠ [] := fun z => by rw [z] at h1; cases h1
      have hot := hx.hotc ne h0
      have nd : X.N.Nodup := by rw [hx.hN]; exact hx.nd
      have ok : BlkOk X.N X.env.scope scope (ownOf c.N (slotsT tg)) := by rw [hx.hN, hx.sc]; exact blkOk_by h7
      have pi := di_range1H (tg := t) (pos := p2) (p := q) (glB_ok (by rw [hx.sc]; exact h4)) (hx.bis _ (of_decide_eq_true h3)) h5 (sE e' c X W y hx h6)
      have hg : ∀ (s : Shared) (H : Hp) (C : Addr) (cl : List (Str × Addr)) (fp : List Addr), PG (blkP X s H scope (compEnvC scope cl C X.env) fp) t (tG X.K tg) := fun s H C cl fp =>
        let y := hx.blkP scope s H C cl fp
        sTg y.hN y.nd y.sc y.fn y.calm tg t h9
      have ht : ∀ (s : Shared) (H : Hp) (C : Addr) (cl : List (Str × Addr)) (fp : List Addr), PTs (blkP X s H scope (compEnvC scope cl C X.env) fp) [] (tT X.K W0 fun _ M Q _ => Q true M) := fun s H C cl fp => dts_nil
      have he : ∀ (s : Shared) (H : Hp) (C : Addr) (cl : List (Str × Addr)) (fp : List Addr), PE (blkP X s H scope (compEnvC scope cl C X.env) fp) u (tE X.K W0 (vE Γ elt)) := fun s H C cl fp =>
        sE elt (c.blkP scope) _ W0 u (hx.blkP scope s H C cl fp) h10
      refine PE.weak (pe_lcH hot nd pi ok hg ht he (noSet_fold rfl)) fun σ H Q h => de_compW (m := false) (of_decide_eq_true h8) σ H Q ?_
      obtain ⟨F, M, ρ, Q', X', s, re, h, pv, px⟩ := h
      exact ⟨F, M, ρ, Q', X', s, re, h, pv, px⟩
    · cases h
  | .ix a b, c, X, W, x, hx, h => by
    unfold isE at h
    cases e : dSub x with
    | none => simp only [e] at h; cases h
    | some n =>
      obtain ⟨u, v⟩ := n
      simp only [e] at h
      obtain ⟨p, rfl⟩ := dSub_inv e
      obtain ⟨h1, g2⟩ := and2 h
      obtain ⟨h2, h3⟩ := and2 g2
      exact de_ix (xo_unit1 hx) (plainI_ok h1) (sE a c X W u hx h2) (sE b c X W v hx h3)
  | .comp m elt tg it cond, c, X, W, x, hx, h => by
    unfold isE at h
    cases e : dComp x with
    | none => simp only [e] at h; cases h
    | some n =>
      obtain ⟨u, t, i, ifs, scope⟩ := n
      simp only [e] at h
      obtain ⟨p, rfl⟩ := dComp_inv e
      obtain ⟨h1, g2⟩ := and2 h
      obtain ⟨h2, g3⟩ := and2 g2
      obtain ⟨h3, g4⟩ := and2 g3
      obtain ⟨h4, g5⟩ := and2 g4
      obtain ⟨h5, g6⟩ := and2 g5
      obtain ⟨h6, g7⟩ := and2 g6
      obtain ⟨h7, h8⟩ := and2 g7
      have nd : X.N.Nodup := by rw [hx.hN]; exact hx.nd
      have ok : BlkOk X.N X.env.scope scope (ownOf c.N (slotsT tg)) := by rw [hx.hN, hx.sc]; exact blkOk_by h4
      have pi := sI it c X W t i hx h3
      have hg : ∀ (s : Shared) (H : Hp) (C : Addr) (cl : List (Str × Addr)) (fp : List Addr), PG (X.blk s H scope (compEnvC scope cl C X.env) fp) t (tG X.K tg) := fun s H C cl fp =>
        let y := hx.blk scope s H C cl fp
        sTg y.hN y.nd y.sc y.fn y.calm tg t h6
      have ht : ∀ (s : Shared) (H : Hp) (C : Addr) (cl : List (Str × Addr)) (fp : List Addr), PTs (X.blk s H scope (compEnvC scope cl C X.env) fp) ifs (tT X.K W0 (vTo Γ cond)) := fun s H C cl fp =>
        sTo cond (c.blk scope) _ W0 ifs (hx.blk scope s H C cl fp) h7
      have he : ∀ (s : Shared) (H : Hp) (C : Addr) (cl : List (Str × Addr)) (fp : List Addr), PE (X.blk s H scope (compEnvC scope cl C X.env) fp) u (tE X.K W0 (vE Γ elt)) := fun s H C cl fp =>
        sE elt (c.blk scope) _ W0 u (hx.blk scope s H C cl fp) h8
      exact PE.weak (pe_lc (hx.calm h1) nd pi ok hg ht he (noSet_fold h2)) (de_comp (pos := p) (hx.calm h1) nd pi ok (of_decide_eq_true h5) hg ht he)
  | .sl a lo hi, c, X, W, x, hx, h => by
    unfold isE at h
    cases e : dSub x with
    | none => simp only [e] at h; cases h
    | some n =>
      obtain ⟨u, v⟩ := n
      simp only [e] at h
      obtain ⟨p, rfl⟩ := dSub_inv e
      cases e2 : dSlice v with
      | none => simp only [e2] at h; cases h
      | some n =>
        obtain ⟨l, r⟩ := n
        simp only [e2] at h
        obtain ⟨q, rfl⟩ := dSlice_inv e2
        obtain ⟨h1, g2⟩ := and2 h
        obtain ⟨h2, h3⟩ := and2 g2
        exact de_sl (sE a c X W u hx h1) (sEo lo c X W l hx h2) (sEo hi c X W r hx h3)
  | .isin neg a b, c, X, W, x, hx, h => by
    unfold isE at h
    split at h
    · rename_i u o v e
      obtain ⟨p, rfl⟩ := dCmp_inv e
      obtain ⟨h1, g2⟩ := and2 h
      obtain ⟨h3, g4⟩ := and2 g2
      obtain ⟨h4, h5⟩ := and2 g4
      exact de_isin (of_decide_eq_true h1) (xo_unit1 hx) (noSet_behind h3) (sE a c X W u hx h4) (sE b c X W v hx h5)
    · cases h
  | .glob k, c, X, W, x, hx, h => by
    unfold isE at h
    cases e : dName x with
    | none => simp only [e] at h; cases h
    | some n =>
      simp only [e] at h
      obtain ⟨p, rfl⟩ := dName_inv e
      obtain ⟨h1, g2⟩ := and2 h
      obtain ⟨h2, h3⟩ := and2 g2
      obtain ⟨d, e1, hc⟩ := cs_at hx (of_decide_eq_true h1)
      refine PE.weak (de_glob (W := W) (glB_ok (by rw [hx.sc]; exact h2)) h3 hc) fun σ H Q h => ?_
      obtain ⟨F, M, ρ, Q', X', s, re, h, pv, px⟩ := h
      refine ⟨F, M, ρ, Q', X', s, re, ?_, pv, px⟩
      obtain ⟨c', e2, q⟩ := (show ∃ c, Γ.cs[k]? = some c ∧ Q' c.2 M from h)
      rw [e1] at e2; cases e2
      exact q
  | .dnew, c, X, W, x, hx, h => by
    unfold isE at h
    obtain ⟨p, rfl⟩ := dDict0_inv h
    exact de_dnew
  | .get1 o k, c, X, W, x, hx, h => by
    unfold isE at h
    split at h
    · rename_i u m y b e
      obtain ⟨ap, cp, rfl, hb⟩ := dMeth_inv e
      obtain ⟨h1, g2⟩ := and2 h
      obtain ⟨h2, g3⟩ := and2 g2
      obtain ⟨h3, g4⟩ := and2 g3
      obtain ⟨h4, g5⟩ := and2 g4
      obtain ⟨h5, h6⟩ := and2 g5
      obtain rfl := of_decide_eq_true h1
      exact de_get1 (xo_unit1 hx) h3 h4 (hb.trans h2) (sE o c X W u hx h5) (sE k c X W y hx h6)
    · cases h
  | .get2 o k d, c, X, W, x, hx, h => by
    unfold isE at h
    split at h
    · rename_i u m y z b e
      obtain ⟨ap, cp, rfl, hb⟩ := dMeth_inv e
      obtain ⟨h1, g2⟩ := and2 h
      obtain ⟨h2, g3⟩ := and2 g2
      obtain ⟨h3, g4⟩ := and2 g3
      obtain ⟨h4, g5⟩ := and2 g4
      obtain ⟨h5, g6⟩ := and2 g5
      obtain ⟨h6, g7⟩ := and2 g6
      obtain ⟨h7, h8⟩ := and2 g7
      obtain rfl := of_decide_eq_true h1
      exact de_get2 (xo_unit1 hx) h3 h4 h5 (hb.trans h2) (sE o c X W u hx h6) (sE k c X W y hx h7) (sE d c X W z hx h8)
    · cases h
  | .comp2 m elt tg it cond tg1 it1 cond1, c, X, W, x, hx, h => by
    unfold isE at h
    cases e : dComp2 x with
    | none => simp only [e] at h; cases h
    | some n =>
      obtain ⟨u, t, i, ifs, t1, i1, ifs1, scope⟩ := n
      simp only [e] at h
      obtain ⟨p, rfl⟩ := dComp2_inv e
      obtain ⟨h1, g2⟩ := and2 h
      obtain ⟨h2, g2'⟩ := and2 g2
      obtain ⟨h2b, g3⟩ := and2 g2'
      obtain ⟨h3, g4⟩ := and2 g3
      obtain ⟨h4, g5⟩ := and2 g4
      obtain ⟨h5, g6⟩ := and2 g5
      obtain ⟨h6, g7⟩ := and2 g6
      obtain ⟨h7, g8⟩ := and2 g7
      obtain ⟨h8, g9⟩ := and2 g8
      obtain ⟨h9, g10⟩ := and2 g9
      obtain ⟨h10, h11⟩ := and2 g10
      have nd : X.N.Nodup := by rw [hx.hN]; exact hx.nd
      have ok : BlkOk X.N X.env.scope scope (ownOf c.N (slotsT tg ++ slotsT tg1)) := by rw [hx.hN, hx.sc]; exact blkOk_by h4
      have ho := of_decide_eq_true h5
      have pi := sI it c X W t i hx h3
      have hg : ∀ (s : Shared) (H : Hp) (C : Addr) (cl : List (Str × Addr)) (fp : List Addr), PG (X.blk s H scope (compEnvC scope cl C X.env) fp) t (tG X.K tg) := fun s H C cl fp =>
        let y := hx.blk scope s H C cl fp
        sTg y.hN y.nd y.sc y.fn y.calm tg t h6
      have ht : ∀ (s : Shared) (H : Hp) (C : Addr) (cl : List (Str × Addr)) (fp : List Addr), PTs (X.blk s H scope (compEnvC scope cl C X.env) fp) ifs (tT X.K W0 (vTo Γ cond)) := fun s H C cl fp =>
        sTo cond (c.blk scope) _ W0 ifs (hx.blk scope s H C cl fp) h7
      have pi1 : ∀ (s : Shared) (H : Hp) (C : Addr) (cl : List (Str × Addr)) (fp : List Addr), PI (X.blk s H scope (compEnvC scope cl C X.env) fp) t1 i1 (tI X.K W0 (vI Γ it1)) := fun s H C cl fp =>
        sI it1 (c.blk scope) _ W0 t1 i1 (hx.blk scope s H C cl fp) h8
      have hg1 : ∀ (s : Shared) (H : Hp) (C : Addr) (cl : List (Str × Addr)) (fp : List Addr), PG (X.blk s H scope (compEnvC scope cl C X.env) fp) t1 (tG X.K tg1) := fun s H C cl fp =>
        let y := hx.blk scope s H C cl fp
        sTg y.hN y.nd y.sc y.fn y.calm tg1 t1 h9
      have ht1 : ∀ (s : Shared) (H : Hp) (C : Addr) (cl : List (Str × Addr)) (fp : List Addr), PTs (X.blk s H scope (compEnvC scope cl C X.env) fp) ifs1 (tT X.K W0 (vTo Γ cond1)) := fun s H C cl fp =>
        sTo cond1 (c.blk scope) _ W0 ifs1 (hx.blk scope s H C cl fp) h10
      have he : ∀ (s : Shared) (H : Hp) (C : Addr) (cl : List (Str × Addr)) (fp : List Addr), PE (X.blk s H scope (compEnvC scope cl C X.env) fp) u (tE X.K W0 (vE Γ elt)) := fun s H C cl fp =>
        sE elt (c.blk scope) _ W0 u (hx.blk scope s H C cl fp) h11
      exact PE.weak (pe_lc2 (vs1 := slotsT tg1) (hx.calm h1) nd pi ok (fun j hj => by rw [ho]; exact List.mem_append_right _ hj) hg ht pi1 hg1 ht1 he (noSet_fold h2) (fun env => noSet_fold h2b)) (de_comp2 ho)
  | .ddisp k v, c, X, W, x, hx, h => by
    unfold isE at h
    cases e : dDisp1 x with
    | none => simp only [e] at h; cases h
    | some n =>
      obtain ⟨u, y⟩ := n
      simp only [e] at h
      obtain ⟨p, rfl⟩ := dDisp1_inv e
      obtain ⟨h1, h2⟩ := and2 h
      exact de_ddisp (sE k c X W u hx h1) (sE v c X W y hx h2)
  | .callv i es, c, X, W, x, hx, h => by
    unfold isE at h
    cases e : dCall x with
    | none => simp only [e] at h; cases h
    | some n =>
      obtain ⟨n, ys⟩ := n
      simp only [e] at h
      obtain ⟨q, p, rfl⟩ := dCall_inv e
      obtain ⟨h0, h⟩ := and2 h
      obtain ⟨h1, g2⟩ := and2 h
      obtain ⟨h2, g3⟩ := and2 g2
      obtain ⟨h3, g4⟩ := and2 g3
      obtain ⟨h4, h5⟩ := and2 g4
      obtain ⟨y, r, rfl⟩ := ne_of_isEmpty h4
      obtain ⟨pa, st⟩ := sEs es c X W (y :: r) hx h5
      obtain ⟨j, hr, hf, _⟩ := hx.room
      have ne : c.fns ≠ [] := fun z => by rw [z] at h0; cases h0
      exact de_callv (hr (hot_of hx (.inl ne))) (hf ne) hx.csOk hx.tk (by rw [hx.hN]; exact of_decide_eq_true h1) (by rw [hx.sc]; exact visB_ok h2) h3 pa st
  | .fld o f, c, X, W, x, hx, h => by
    unfold isE at h
    cases e : dAttr x with
    | none => simp only [e] at h; cases h
    | some n =>
      obtain ⟨u, g⟩ := n
      simp only [e] at h
      obtain ⟨p, rfl⟩ := dAttr_inv e
      obtain ⟨h1, g2⟩ := and2 h
      obtain ⟨h2, h3⟩ := and2 g2
      obtain rfl := of_decide_eq_true h1
      exact de_fld h2 hx.fls (sE o c X W u hx h3)
  | .make k es, c, X, W, x, hx, h => by
    unfold isE at h
    cases e : dCall x with
    | none => simp only [e] at h; cases h
    | some n =>
      obtain ⟨n, ys⟩ := n
      simp only [e] at h
      obtain ⟨q, p, rfl⟩ := dCall_inv e
      obtain ⟨h1, g2⟩ := and2 h
      obtain ⟨h2, g3⟩ := and2 g2
      obtain ⟨h3, h5⟩ := and2 g3
      obtain ⟨g, j, e1, e2, hr, hf⟩ := mk_at hx (of_decide_eq_true h1)
      have gl : Gl X n := glB_ok (by rw [hx.sc]; exact h2)
      have drop : ∀ (ds : List D) (M1 : Mo) (Q' : QE) (X' : XQ), (∃ g, Γ.mks[k]? = some g ∧ ds.length + 1 = g.n ∧ ∀ p, M1 p = none → g.con (.ref p :: ds) (updM M1 p (.ins g.cls [])) (fun r M2 => r = .non ∧ Q' (.ref p) M2) X') =
          (ds.length + 1 = g.n ∧ ∀ p, M1 p = none → g.con (.ref p :: ds) (updM M1 p (.ins g.cls [])) (fun r M2 => r = .non ∧ Q' (.ref p) M2) X') := fun ds M1 Q' X' => by rw [e1]; simp
      cases ys with
      | nil =>
        refine PE.weak (de_make0 hr hf hx.tk e2 gl h3) fun σ H Q h => ?_
        obtain ⟨F, M, ρ, Q', X', s, re, h, pv, px⟩ := h
        refine ⟨F, M, ρ, Q', X', s, re, ?_, pv, px⟩
        cases es with
        | cons _ _ => unfold isEs at h5; cases h5
        | nil =>
          have h : vEs Γ .nil ρ M (fun ds M1 => ∃ g, Γ.mks[k]? = some g ∧ ds.length + 1 = g.n ∧ ∀ p, M1 p = none → g.con (.ref p :: ds) (updM M1 p (.ins g.cls [])) (fun r M2 => r = .non ∧ Q' (.ref p) M2) X') X' := h
          rw [show (fun ds M1 => ∃ g, Γ.mks[k]? = some g ∧ ds.length + 1 = g.n ∧ ∀ p, M1 p = none → g.con (.ref p :: ds) (updM M1 p (.ins g.cls [])) (fun r M2 => r = .non ∧ Q' (.ref p) M2) X') = _ from funext fun ds => funext fun M1 => drop ds M1 Q' X'] at h
          exact h
      | cons y r =>
        obtain ⟨pa, st⟩ := sEs es c X W (y :: r) hx h5
        refine PE.weak (de_make hr hf hx.tk e2 gl h3 pa st) fun σ H Q h => ?_
        obtain ⟨F, M, ρ, Q', X', s, re, h, pv, px⟩ := h
        refine ⟨F, M, ρ, Q', X', s, re, ?_, pv, px⟩
        have h : vEs Γ es ρ M (fun ds M1 => ∃ g, Γ.mks[k]? = some g ∧ ds.length + 1 = g.n ∧ ∀ p, M1 p = none → g.con (.ref p :: ds) (updM M1 p (.ins g.cls [])) (fun r M2 => r = .non ∧ Q' (.ref p) M2) X') X' := h
        rw [show (fun ds M1 => ∃ g, Γ.mks[k]? = some g ∧ ds.length + 1 = g.n ∧ ∀ p, M1 p = none → g.con (.ref p :: ds) (updM M1 p (.ins g.cls [])) (fun r M2 => r = .non ∧ Q' (.ref p) M2) X') = _ from funext fun ds => funext fun M1 => drop ds M1 Q' X'] at h
        exact h
  | .allg i elt it, c, X, W, x, hx, h => by
    unfold isE at h
    cases e : dAllG x with
    | none => simp only [e] at h; cases h
    | some n =>
      obtain ⟨n, u, x, y, scope⟩ := n
      simp only [e] at h
      obtain ⟨q, px, gp, p, rfl⟩ := dAllG_inv e
      obtain ⟨h1, g2⟩ := and2 h
      obtain ⟨h2, g3⟩ := and2 g2
      obtain ⟨h3, g4⟩ := and2 g3
      obtain ⟨h4, g5⟩ := and2 g4
      obtain ⟨h5, g6⟩ := and2 g5
      obtain ⟨h6, g7⟩ := and2 g6
      obtain ⟨h7, g8⟩ := and2 g7
      obtain ⟨h8, g9⟩ := and2 g8
      obtain ⟨h9, g10⟩ := and2 g9
      obtain ⟨h10, g11⟩ := and2 g10
      obtain ⟨h11, g12⟩ := and2 g11
      obtain ⟨h12, h13⟩ := and2 g12
      obtain rfl := of_decide_eq_true h1
      have nd : X.N.Nodup := by rw [hx.hN]; exact hx.nd
      have ok : BlkOk X.N X.env.scope scope (ownOf c.N [i]) := by rw [hx.hN, hx.sc]; exact blkOk_by h9
      have ho := of_decide_eq_true h10
      obtain ⟨⟨P, cd, hP, hcode, TB⟩, j, hr, f1, f2, f3, f4, f5⟩ := hx.tb h2
      have S := genSB_ok h11
      have pi := sI it c X W (.Name x px) y hx (isI_tg h8)
      refine PE.weak (pe_allG (gg := gName i) hr (hx.calm h3) nd (glB_ok (by rw [hx.sc]; exact h5)) (hx.bis _ (of_decide_eq_true h4)) (by decide +kernel) TB hcode S ok pi (fun s H A' env fp e1 _ r => ?_) (fun s H A' env fp e1 e2 _ r => ?_) (noSet_gen h6 h7)) (by rw [ho]; exact de_allG hP)
      · exact pg_name nd (by rw [hx.hN]; exact of_decide_eq_true h12) (.inl (by show env.scope.names.lookup x = _; rw [e1]; exact S.loc)) (.inr (by show env.scope.names.lookup x = _; rw [e1]; exact S.loc))
      · exact sE elt (c.gen scope) _ W0 u (hx.gen scope s H A' env fp e1 e2 r f1 f2 f3 f4 f5) h13
  | .meth k o es, c, X, W, x, hx, h => by
    unfold isE at h
    cases e : dMeth x with
    | none => simp only [e] at h; cases h
    | some n =>
      obtain ⟨u, m, ys, b⟩ := n
      simp only [e] at h
      obtain ⟨ap, cp, rfl, hb⟩ := dMeth_inv e
      obtain ⟨h1, g2⟩ := and2 h
      obtain ⟨h2, g3⟩ := and2 g2
      obtain ⟨h3, g4⟩ := and2 g3
      obtain ⟨h4, g5⟩ := and2 g4
      obtain ⟨h5, h6⟩ := and2 g5
      obtain ⟨g, j, e1, e2, hr, hf⟩ := mt_at hx (of_decide_eq_true h1)
      have po := sE o c X W u hx h5
      have drop : ∀ (wl : D → Mo → (Cl → Prop)) (x : D) (M1 : Mo), (∃ g p fs, Γ.mts[k]? = some g ∧ x = .ref p ∧ M1 p = some (.ins g.cls fs) ∧ fs.lookup g.name = none ∧ wl x M1 g) = (∃ p fs, x = .ref p ∧ M1 p = some (.ins g.cls fs) ∧ fs.lookup g.name = none ∧ wl x M1 g) := fun wl x M1 => by
        rw [e1]
        simp
      cases ys with
      | nil =>
        refine PE.weak (de_meth0 hr hf hx.tk e2 h4 (hb.trans h2) po) fun σ H Q h => ?_
        obtain ⟨F, M, ρ, Q', X', s, re, h, pv, px⟩ := h
        refine ⟨F, M, ρ, Q', X', s, re, ?_, pv, px⟩
        cases es with
        | cons _ _ => unfold isEs at h6; cases h6
        | nil =>
          have h : vE Γ o ρ M (fun x M1 => ∃ g p fs, Γ.mts[k]? = some g ∧ x = .ref p ∧ M1 p = some (.ins g.cls fs) ∧ fs.lookup g.name = none ∧ (fun (x : D) (M1 : Mo) (g : Cl) => ([] : List D).length + 1 = g.n ∧ g.con [x] M1 Q' X') x M1 g) X' := h
          rw [show (fun x M1 => ∃ g p fs, Γ.mts[k]? = some g ∧ x = .ref p ∧ M1 p = some (.ins g.cls fs) ∧ fs.lookup g.name = none ∧ (fun (x : D) (M1 : Mo) (g : Cl) => ([] : List D).length + 1 = g.n ∧ g.con [x] M1 Q' X') x M1 g) = _ from funext fun x => funext fun M1 => drop (fun (x : D) (M1 : Mo) (g : Cl) => ([] : List D).length + 1 = g.n ∧ g.con [x] M1 Q' X') x M1] at h
          exact h
      | cons y r =>
        obtain ⟨pa, st⟩ := sEs es c X W (y :: r) hx h6
        refine PE.weak (de_meth hr hf hx.tk e2 h4 (of_decide_eq_true h3) (hb.trans h2) po pa st) fun σ H Q h => ?_
        obtain ⟨F, M, ρ, Q', X', s, re, h, pv, px⟩ := h
        refine ⟨F, M, ρ, Q', X', s, re, ?_, pv, px⟩
        have h : vE Γ o ρ M (fun x M1 => ∃ g p fs, Γ.mts[k]? = some g ∧ x = .ref p ∧ M1 p = some (.ins g.cls fs) ∧ fs.lookup g.name = none ∧ (fun (x : D) (M1 : Mo) (g : Cl) => vEs Γ es ρ M1 (fun ds M2 => ds.length + 1 = g.n ∧ g.con (x :: ds) M2 Q' X') X') x M1 g) X' := h
        rw [show (fun x M1 => ∃ g p fs, Γ.mts[k]? = some g ∧ x = .ref p ∧ M1 p = some (.ins g.cls fs) ∧ fs.lookup g.name = none ∧ (fun (x : D) (M1 : Mo) (g : Cl) => vEs Γ es ρ M1 (fun ds M2 => ds.length + 1 = g.n ∧ g.con (x :: ds) M2 Q' X') X') x M1 g) = _ from funext fun x => funext fun M1 => drop (fun (x : D) (M1 : Mo) (g : Cl) => vEs Γ es ρ M1 (fun ds M2 => ds.length + 1 = g.n ∧ g.con (x :: ds) M2 Q' X') X') x M1] at h
        exact h
  | .rep m es b, c, X, W, x, hx, h => by
    unfold isE at h
    cases e : dBin x with
    | none => simp only [e] at h; cases h
    | some n =>
      obtain ⟨u, o, v⟩ := n
      simp only [e] at h
      obtain ⟨p, rfl⟩ := dBin_inv e
      obtain ⟨h1, h2⟩ := and2 h
      obtain rfl := of_decide_eq_true h1
      cases e2 : dLst u with
      | none => simp only [e2] at h2; cases h2
      | some xs =>
        simp only [e2] at h2
        obtain ⟨q, rfl⟩ := dLst_inv e2
        obtain ⟨h3, h4⟩ := and2 h2
        exact de_rep (sEs es c X W xs hx h3).1 (sE b c X W v hx h4)
  | .bor l e, c, X, W, x, hx, h => by
    unfold isE at h
    exact de_bor (sE e c X W x hx h)
  | .ixT o es, c, X, W, x, hx, h => by
    unfold isE at h
    cases e : dSub x with
    | none => simp only [e] at h; cases h
    | some n =>
      obtain ⟨u, v⟩ := n
      simp only [e] at h
      obtain ⟨p, rfl⟩ := dSub_inv e
      cases e2 : dTup v with
      | none => simp only [e2] at h; cases h
      | some ys =>
        simp only [e2] at h
        obtain ⟨k, q, rfl⟩ := dTup_inv e2
        obtain ⟨h1, h2⟩ := and2 h
        exact de_ixT (xo_unit1 hx) (sE o c X W u hx h1) (sEs es c X W ys hx h2).1
  | .dnewT, c, X, W, x, hx, h => by
    unfold isE at h
    obtain ⟨p, rfl⟩ := dDict0_inv h
    exact de_dnewT
  | .pop o, c, X, W, x, hx, h => by
    unfold isE at h
    split at h
    · rename_i u m b e
      obtain ⟨ap, cp, rfl, hb⟩ := dMeth_inv e
      obtain ⟨h1, g2⟩ := and2 h
      obtain ⟨h2, g3⟩ := and2 g2
      obtain ⟨h3, h4⟩ := and2 g3
      obtain rfl := of_decide_eq_true h1
      exact de_pop h3 (by rw [hb]; exact h2) (sE o c X W u hx h4)
    · cases h
  | .idx o x' k, c, X, W, x, hx, h => by
    unfold isE at h
    split at h
    · rename_i u m y z b e
      obtain ⟨ap, cp, rfl, hb⟩ := dMeth_inv e
      obtain ⟨h1, g2⟩ := and2 h
      obtain ⟨h2, g3⟩ := and2 g2
      obtain ⟨h3, g4⟩ := and2 g3
      obtain ⟨h4, g5⟩ := and2 g4
      obtain ⟨h5, g6⟩ := and2 g5
      obtain ⟨h6, g7⟩ := and2 g6
      obtain ⟨h7, h8⟩ := and2 g7
      obtain rfl := of_decide_eq_true h1
      exact de_idx h3 h4 h5 (by rw [hb]; exact h2) (sE o c X W u hx h6) (sE x' c X W y hx h7) (sE k c X W z hx h8)
    · cases h
  | .tx1 k o x', c, X, W, x, hx, h => by
    unfold isE at h
    split at h
    · rename_i u m y b e
      obtain ⟨ap, cp, rfl, hb⟩ := dMeth_inv e
      obtain ⟨h1, g2⟩ := and2 h
      obtain ⟨h2, g3⟩ := and2 g2
      obtain ⟨h3, g4⟩ := and2 g3
      obtain ⟨h4, g5⟩ := and2 g4
      obtain ⟨h5, h6⟩ := and2 g5
      obtain rfl := of_decide_eq_true h1
      cases k with
      | true => exact de_tx1 (g := fun a b => Txt.count a b) PySem.F.slot_str_count PySem.F.type_str_count mt_count (fun _ => attrOk_ok h3) h4 (by rw [hb]; exact h2) (sE o c X W u hx h5) (sE x' c X W y hx h6)
      | false => exact de_tx1 (g := fun a b => Txt.rfind a b) PySem.F.slot_str_rfind PySem.F.type_str_rfind mt_rfind (fun _ => attrOk_ok h3) h4 (by rw [hb]; exact h2) (sE o c X W u hx h5) (sE x' c X W y hx h6)
    · cases h
  | .split o x', c, X, W, x, hx, h => by
    unfold isE at h
    split at h
    · rename_i u m y b e
      obtain ⟨ap, cp, rfl, hb⟩ := dMeth_inv e
      obtain ⟨h1, g2⟩ := and2 h
      obtain ⟨h2, g3⟩ := and2 g2
      obtain ⟨h3, g4⟩ := and2 g3
      obtain ⟨h4, g5⟩ := and2 g4
      obtain ⟨h5, h6⟩ := and2 g5
      obtain rfl := of_decide_eq_true h1
      exact de_split (fun _ => attrOk_ok h3) h4 (by rw [hb]; exact h2) (sE o c X W u hx h5) (sE x' c X W y hx h6)
    · cases h
  | .join o x', c, X, W, x, hx, h => by
    unfold isE at h
    split at h
    · rename_i u m y b e
      obtain ⟨ap, cp, rfl, hb⟩ := dMeth_inv e
      obtain ⟨h1, g2⟩ := and2 h
      obtain ⟨h2, g3⟩ := and2 g2
      obtain ⟨h3, g4⟩ := and2 g3
      obtain ⟨h4, g5⟩ := and2 g4
      obtain ⟨h5, h6⟩ := and2 g5
      obtain rfl := of_decide_eq_true h1
      exact de_join (fun _ => attrOk_ok h3) h4 (by rw [hb]; exact h2) (sE o c X W u hx h5) (sE x' c X W y hx h6)
    · cases h
  | .find3 o x' k, c, X, W, x, hx, h => by
    unfold isE at h
    split at h
    · rename_i u m y z b e
      obtain ⟨ap, cp, rfl, hb⟩ := dMeth_inv e
      obtain ⟨h1, g2⟩ := and2 h
      obtain ⟨h2, g3⟩ := and2 g2
      obtain ⟨h3, g4⟩ := and2 g3
      obtain ⟨h4, g5⟩ := and2 g4
      obtain ⟨h5, g6⟩ := and2 g5
      obtain ⟨h6, g7⟩ := and2 g6
      obtain ⟨h7, h8⟩ := and2 g7
      obtain rfl := of_decide_eq_true h1
      exact de_find3 h3 h4 h5 (by rw [hb]; exact h2) (sE o c X W u hx h6) (sE x' c X W y hx h7) (sE k c X W z hx h8)
    · cases h
  | .xfld o f, c, X, W, x, hx, h => by
    unfold isE at h
    cases e : dAttr x with
    | none => simp only [e] at h; cases h
    | some n =>
      obtain ⟨u, g⟩ := n
      simp only [e] at h
      obtain ⟨p, rfl⟩ := dAttr_inv e
      obtain ⟨h0, g1⟩ := and2 h
      obtain ⟨h1, g2⟩ := and2 g1
      obtain ⟨h2, h3⟩ := and2 g2
      obtain rfl := of_decide_eq_true h1
      exact de_xfld h2 (hx.xh h0) hx.xfl (sE o c X W u hx h3)
  | .kget o k, c, X, W, x, hx, h => by
    unfold isE at h
    split at h
    · rename_i u m y b e
      obtain ⟨ap, cp, rfl, hl⟩ := dMeth_inv e
      obtain ⟨h1, g2⟩ := and2 h
      obtain ⟨h2, g3⟩ := and2 g2
      obtain ⟨h3, g4⟩ := and2 g3
      obtain ⟨h4, g5⟩ := and2 g4
      obtain ⟨h5, h6⟩ := and2 g5
      obtain rfl := of_decide_eq_true h1
      exact de_kget hx.kd h3 h4 (by rw [hl]; exact h2) (sE o c X W u hx h5) (sE k c X W y hx h6)
    · cases h
  | .makek k es, c, X, W, x, hx, h => by
    unfold isE at h
    cases e : dCallK x with
    | none => simp only [e] at h; cases h
    | some n =>
      obtain ⟨n, kws⟩ := n
      simp only [e] at h
      obtain ⟨q, p, rfl⟩ := dCallK_inv e
      obtain ⟨h1, g2⟩ := and2 h
      obtain ⟨h2, g3⟩ := and2 g2
      obtain ⟨h3, h4⟩ := and2 g3
      obtain ⟨g, j, hg, hn, hks, hr, hf⟩ := km_at hx (of_decide_eq_true h1)
      obtain ⟨pk, st⟩ := sKs es c X W kws hx h4
      refine PE.weak (de_makek hr hf hx.tk hn hks (glB_ok (by rw [hx.sc]; exact h2)) h3 pk st) fun σ H Q h => ?_
      obtain ⟨F, M, ρ, Q', X', s, r, h, pv, px⟩ := h
      refine ⟨F, M, ρ, Q', X', s, r, ?_, pv, px⟩
      have h : vEs Γ es ρ M (fun ds M1 => ∃ g, Γ.kms[k]? = some g ∧ ds.length = g.ks.length ∧ ∀ p, M1 p = none → g.con (.ref p :: g.arr ds) (updM M1 p (.ins g.cls [])) (fun r M2 => r = .non ∧ Q' (.ref p) M2) X') X' := h
      have : (fun ds M1 => ∃ g, Γ.kms[k]? = some g ∧ ds.length = g.ks.length ∧ ∀ p, M1 p = none → g.con (.ref p :: g.arr ds) (updM M1 p (.ins g.cls [])) (fun r M2 => r = .non ∧ Q' (.ref p) M2) X') = (fun ds M1 => ds.length = g.ks.length ∧ ∀ p, M1 p = none → g.con (.ref p :: g.arr ds) (updM M1 p (.ins g.cls [])) (fun r M2 => r = .non ∧ Q' (.ref p) M2) X') := by
        funext ds M1
        rw [hg]
        simp
      rw [this] at h
      exact h
  | .lvals o, c, X, W, x, hx, h => by
    unfold isE at h
    split at h
    · rename_i n u e
      obtain ⟨q, ap, cp, p, rfl, hl⟩ := dListV_inv e
      obtain ⟨h1, g2⟩ := and2 h
      obtain ⟨h2, g3⟩ := and2 g2
      obtain ⟨h3, g4⟩ := and2 g3
      obtain ⟨h4, g5⟩ := and2 g4
      obtain ⟨h5, h6⟩ := and2 g5
      obtain rfl := of_decide_eq_true h1
      exact de_lvals (hx.calm h2) (glB_ok (by rw [hx.sc]; exact h4)) (hx.bis _ (of_decide_eq_true h3)) h5 hl (sE o c X W u hx h6)
    · cases h
  | .dcomp k v tg it, c, X, W, x, hx, h => by
    unfold isE at h
    split at h
    · rename_i y z t i scope e
      obtain ⟨p, rfl⟩ := dDcomp_inv e
      obtain ⟨h1, g2⟩ := and2 h
      obtain ⟨h2, g3⟩ := and2 g2
      obtain ⟨h3, g4⟩ := and2 g3
      obtain ⟨h4, g5⟩ := and2 g4
      obtain ⟨h5, g6⟩ := and2 g5
      obtain ⟨h6, g7⟩ := and2 g6
      obtain ⟨h7, h8⟩ := and2 g7
      have nd : X.N.Nodup := by rw [hx.hN]; exact hx.nd
      have ok : BlkOk X.N X.env.scope scope (ownOf c.N (slotsT tg)) := by rw [hx.hN, hx.sc]; exact blkOk_by h4
      have pi := sI it c X W t i hx h3
      have ho := of_decide_eq_true h5
      have hg : ∀ (s : Shared) (H : Hp) (C : Addr) (cl : List (Str × Addr)) (fp : List Addr), PG (X.blk s H scope (compEnvC scope cl C X.env) fp) t (tG X.K tg) := fun s H C cl fp =>
        let y := hx.blk scope s H C cl fp
        sTg y.hN y.nd y.sc y.fn y.calm tg t h6
      have hk : ∀ (s : Shared) (H : Hp) (C : Addr) (cl : List (Str × Addr)) (fp : List Addr), PE (X.blk s H scope (compEnvC scope cl C X.env) fp) y (tE X.K W0 (vE Γ k)) := fun s H C cl fp =>
        sE k (c.blk scope) _ W0 y (hx.blk scope s H C cl fp) h7
      have hv : ∀ (s : Shared) (H : Hp) (C : Addr) (cl : List (Str × Addr)) (fp : List Addr), PE (X.blk s H scope (compEnvC scope cl C X.env) fp) z (tE X.K W0 (vE Γ v)) := fun s H C cl fp =>
        sE v (c.blk scope) _ W0 z (hx.blk scope s H C cl fp) h8
      refine PE.weak (pe_dc (hx.calm h1) nd pi ok hg (fun s H C cl fp => dts_nil) hk hv (noSet_fold h2)) (de_dcomp ho)
    · cases h
theorem sKs : ∀ (es : Es) (c : SC) (X : Cx) (W : WX) (kws : List Keyword), XO X Γ W c → isKs c es kws = true → PK X kws (tL X.K W (vEs Γ es)) ∧ kws.all (fun k => k.arg.isSome) = true
  | .nil, c, X, W, [], hx, h => ⟨dk_nil, rfl⟩
  | .nil, c, X, W, _ :: _, hx, h => by unfold isKs at h; cases h
  | .cons e r, c, X, W, [], hx, h => by unfold isKs at h; cases h
  | .cons e r, c, X, W, ⟨nm, x, kp⟩ :: xs, hx, h => by
    unfold isKs at h
    obtain ⟨h1, g2⟩ := and2 h
    obtain ⟨h2, h3⟩ := and2 g2
    obtain ⟨pa, st⟩ := sKs r c X W xs hx h3
    exact ⟨dk_cons (sE e c X W x hx h2) pa, by rw [List.all_cons, h1, st]; rfl⟩
theorem sEo : ∀ (e : Eo) (c : SC) (X : Cx) (W : WX) (x : Option Expr), XO X Γ W c → isEo c e x = true → PO X x (tO X.K W (vEo Γ e))
  | .none, c, X, W, none, hx, h => do_none
  | .none, c, X, W, some _, hx, h => by unfold isEo at h; cases h
  | .some e, c, X, W, none, hx, h => by unfold isEo at h; cases h
  | .some e, c, X, W, some x, hx, h => by
    unfold isEo at h
    exact do_some (sE e c X W x hx h)
theorem sEs : ∀ (es : Es) (c : SC) (X : Cx) (W : WX) (xs : List Expr), XO X Γ W c → isEs c es xs = true → PA X xs (tL X.K W (vEs Γ es)) ∧ xs.all noStar = true
  | .nil, c, X, W, [], hx, h => ⟨da_nil, rfl⟩
  | .nil, c, X, W, _ :: _, hx, h => by unfold isEs at h; cases h
  | .cons e r, c, X, W, [], hx, h => by unfold isEs at h; cases h
  | .cons e r, c, X, W, x :: xs, hx, h => by
    unfold isEs at h
    obtain ⟨h1, g2⟩ := and2 h
    obtain ⟨h2, h3⟩ := and2 g2
    obtain ⟨pa, st⟩ := sEs r c X W xs hx h3
    exact ⟨da_cons h1 (sE e c X W x hx h2) pa, by rw [List.all_cons, h1, st]; rfl⟩
theorem sT : ∀ (t : T) (c : SC) (X : Cx) (W : WX) (x : Expr), XO X Γ W c → isT c t x = true → PT X x (tT X.K W (vT Γ t))
  | .tr e, c, X, W, x, hx, h => by
    unfold isT at h
    obtain ⟨h1, h2⟩ := and2 h
    exact dt_tr h1 (sE e c X W x hx h2)
  | .isin neg a b, c, X, W, x, hx, h => by
    unfold isT at h
    split at h
    · rename_i u o v e
      obtain ⟨p, rfl⟩ := dCmp_inv e
      obtain ⟨h1, g2⟩ := and2 h
      obtain ⟨h3, g4⟩ := and2 g2
      obtain ⟨h4, h5⟩ := and2 g4
      exact dt_isin (of_decide_eq_true h1) (xo_unit1 hx) (noSet_behind h3) (sE a c X W u hx h4) (sE b c X W v hx h5)
    · cases h
  | .cmp op a b, c, X, W, x, hx, h => by
    unfold isT at h
    split at h
    · rename_i u o v e
      obtain ⟨p, rfl⟩ := dCmp_inv e
      obtain ⟨h1, g2⟩ := and2 h
      obtain ⟨h2, g3⟩ := and2 g2
      obtain ⟨h3, g4⟩ := and2 g3
      obtain ⟨h4, h5⟩ := and2 g4
      obtain rfl := of_decide_eq_true h1
      obtain ⟨r, ho, hl⟩ := cmpop_ok (xo_units hx) h2
      exact dt_cmp ho hl (noSet_behind h3) (sE a c X W u hx h4) (sE b c X W v hx h5)
    · cases h
  | .chain op op' a b d, c, X, W, x, hx, h => by
    unfold isT at h
    split at h
    · rename_i u o o' v z e
      obtain ⟨p, rfl⟩ := dCmp_inv e
      obtain ⟨h1, g2⟩ := and2 h
      obtain ⟨h2, g3⟩ := and2 g2
      obtain ⟨h3, g4⟩ := and2 g3
      obtain ⟨h4, g5⟩ := and2 g4
      obtain ⟨h5, g6⟩ := and2 g5
      obtain ⟨h6, g7⟩ := and2 g6
      obtain ⟨h7, g8⟩ := and2 g7
      obtain ⟨h8, h9⟩ := and2 g8
      obtain rfl := of_decide_eq_true h1
      obtain rfl := of_decide_eq_true h2
      obtain ⟨r, ho, hl⟩ := cmpop_ok (xo_units hx) h3
      obtain ⟨r', ho', hl'⟩ := cmpop_ok (xo_units hx) h4
      exact dt_chain ho hl ho' hl' (noSet_behind h6) (sE a c X W u hx h7) (sE b c X W v hx h8) (sE d c X W z hx h9)
    · cases h
  | .and a b, c, X, W, x, hx, h => by
    unfold isT at h
    cases e : dBool x with
    | none => simp only [e] at h; cases h
    | some n =>
      obtain ⟨o, u, v⟩ := n
      simp only [e] at h
      obtain ⟨y, r, p, rfl, rfl⟩ := dBool_inv e
      obtain ⟨h1, g2⟩ := and2 h
      obtain ⟨h2, h3⟩ := and2 g2
      obtain rfl := of_decide_eq_true h1
      exact dt_and (sT a c X W u hx h2) (and_tailT (sT b c X W _ hx h3))
  | .or a b, c, X, W, x, hx, h => by
    unfold isT at h
    cases e : dBool x with
    | none => simp only [e] at h; cases h
    | some n =>
      obtain ⟨o, u, v⟩ := n
      simp only [e] at h
      obtain ⟨y, r, p, rfl, rfl⟩ := dBool_inv e
      obtain ⟨h1, g2⟩ := and2 h
      obtain ⟨h2, h3⟩ := and2 g2
      obtain rfl := of_decide_eq_true h1
      exact dt_or (sT a c X W u hx h2) (or_tailT (sT b c X W _ hx h3))
  | .not a, c, X, W, x, hx, h => by
    unfold isT at h
    cases e : dUn x with
    | none => simp only [e] at h; cases h
    | some n =>
      obtain ⟨o, u⟩ := n
      simp only [e] at h
      obtain ⟨p, rfl⟩ := dUn_inv e
      obtain ⟨h1, h2⟩ := and2 h
      obtain rfl := of_decide_eq_true h1
      exact dt_not (sT a c X W u hx h2)
  | .bor t, c, X, W, x, hx, h => by
    unfold isT at h
    exact dt_bor (sT t c X W x hx h)
theorem sTo : ∀ (t : To) (c : SC) (X : Cx) (W : WX) (xs : List Expr), XO X Γ W c → isTo c t xs = true → PTs X xs (tT X.K W (vTo Γ t))
  | .none, c, X, W, [], hx, h => PTs.weak pts_nil fun σ H Q h => by
    obtain ⟨F, M, ρ, Q', X', s, r, h, pb, px⟩ := h
    exact pb _ _ h F H (Step.refl s)
  | .none, c, X, W, _ :: _, hx, h => by unfold isTo at h; cases h
  | .some t, c, X, W, [x], hx, h => by
    unfold isTo at h
    exact pts_one (sT t c X W x hx h)
  | .some t, c, X, W, [], hx, h => by unfold isTo at h; cases h
  | .some t, c, X, W, _ :: _ :: _, hx, h => by unfold isTo at h; cases h
theorem sI : ∀ (it : I) (c : SC) (X : Cx) (W : WX) (tg x : Expr), XO X Γ W c → isI c it tg x = true → PI X tg x (tI X.K W (vI Γ it))
  | .seq e, c, X, W, tg, x, hx, h => by
    unfold isI at h
    exact di_seq (sE e c X W x hx h)
  | .chars e, c, X, W, tg, x, hx, h => by
    unfold isI at h
    exact di_chars (sE e c X W x hx h)
  | .rev e, c, X, W, tg, x, hx, h => by
    unfold isI at h
    split at h
    · rename_i n y e1
      obtain ⟨q, p, rfl⟩ := dCall_inv e1
      obtain ⟨h1, g2⟩ := and2 h
      obtain ⟨h2, g3⟩ := and2 g2
      obtain ⟨h3, g4⟩ := and2 g3
      obtain ⟨h4, h5⟩ := and2 g4
      obtain rfl := of_decide_eq_true h1
      exact di_rev (glB_ok (by rw [hx.sc]; exact h3)) (hx.bis _ (of_decide_eq_true h2)) h4 (sE e c X W y hx h5)
    · cases h
  | .range3 a b d, c, X, W, tg, x, hx, h => by
    unfold isI at h
    split at h
    · rename_i n y z w e1
      obtain ⟨q, p, rfl⟩ := dCall_inv e1
      obtain ⟨h1, g2⟩ := and2 h
      obtain ⟨h2, g3⟩ := and2 g2
      obtain ⟨h3, g4⟩ := and2 g3
      obtain ⟨h4, g5⟩ := and2 g4
      obtain ⟨h5, g6⟩ := and2 g5
      obtain ⟨h6, g7⟩ := and2 g6
      obtain ⟨h7, g8⟩ := and2 g7
      obtain ⟨h8, h9⟩ := and2 g8
      obtain rfl := of_decide_eq_true h1
      exact di_range3 (glB_ok (by rw [hx.sc]; exact h3)) (hx.bis _ (of_decide_eq_true h2)) h4 h5 h6 (sE a c X W y hx h7) (sE b c X W z hx h8) (sE d c X W w hx h9)
    · cases h
  | .range1 e, c, X, W, tg, x, hx, h => by
    unfold isI at h
    split at h
    · rename_i n y e1
      obtain ⟨q, p, rfl⟩ := dCall_inv e1
      obtain ⟨h1, g2⟩ := and2 h
      obtain ⟨h2, g3⟩ := and2 g2
      obtain ⟨h3, g4⟩ := and2 g3
      obtain ⟨h4, h5⟩ := and2 g4
      obtain rfl := of_decide_eq_true h1
      exact di_range1 (glB_ok (by rw [hx.sc]; exact h3)) (hx.bis _ (of_decide_eq_true h2)) h4 (sE e c X W y hx h5)
    · cases h
  | .range2 a b, c, X, W, tg, x, hx, h => by
    unfold isI at h
    split at h
    · rename_i n y z e1
      obtain ⟨q, p, rfl⟩ := dCall_inv e1
      obtain ⟨h1, g2⟩ := and2 h
      obtain ⟨h2, g3⟩ := and2 g2
      obtain ⟨h3, g4⟩ := and2 g3
      obtain ⟨h4, g5⟩ := and2 g4
      obtain ⟨h5, g6⟩ := and2 g5
      obtain ⟨h6, h7⟩ := and2 g6
      obtain rfl := of_decide_eq_true h1
      exact di_range2 (glB_ok (by rw [hx.sc]; exact h3)) (hx.bis _ (of_decide_eq_true h2)) h4 h5 (sE a c X W y hx h6) (sE b c X W z hx h7)
    · cases h
  | .zip a b, c, X, W, tg, x, hx, h => by
    unfold isI at h
    split at h
    · rename_i n y z e1
      obtain ⟨q, p, rfl⟩ := dCall_inv e1
      obtain ⟨h0, g1⟩ := and2 h
      obtain ⟨h1, g2⟩ := and2 g1
      obtain ⟨h2, g3⟩ := and2 g2
      obtain ⟨h3, g4⟩ := and2 g3
      obtain ⟨h4, g5⟩ := and2 g4
      obtain ⟨h5, g6⟩ := and2 g5
      obtain ⟨h6, h7⟩ := and2 g6
      obtain rfl := of_decide_eq_true h1
      obtain ⟨ts, et⟩ := Option.isSome_iff_exists.mp h0
      obtain ⟨k, tp, rfl⟩ := dTup_inv et
      exact di_zip (glB_ok (by rw [hx.sc]; exact h3)) (hx.bis _ (of_decide_eq_true h2)) h4 h5 (sE a c X W y hx h6) (sE b c X W z hx h7)
    · cases h
  | .enum e, c, X, W, tg, x, hx, h => by
    unfold isI at h
    split at h
    · rename_i n y e1
      obtain ⟨q, p, rfl⟩ := dCall_inv e1
      obtain ⟨h0, g1⟩ := and2 h
      obtain ⟨h1, g2⟩ := and2 g1
      obtain ⟨h2, g3⟩ := and2 g2
      obtain ⟨h3, g4⟩ := and2 g3
      obtain ⟨h4, h5⟩ := and2 g4
      obtain rfl := of_decide_eq_true h1
      obtain ⟨ts, et⟩ := Option.isSome_iff_exists.mp h0
      obtain ⟨k, tp, rfl⟩ := dTup_inv et
      exact di_enum (glB_ok (by rw [hx.sc]; exact h3)) (hx.bis _ (of_decide_eq_true h2)) h4 (sE e c X W y hx h5)
    · cases h
  | .enumK e, c, X, W, tg, x, hx, h => by
    unfold isI at h
    split at h
    · rename_i n y e1
      obtain ⟨q, p, rfl⟩ := dCall_inv e1
      obtain ⟨h0, g1⟩ := and2 h
      obtain ⟨h1, g2⟩ := and2 g1
      obtain ⟨h2, g3⟩ := and2 g2
      obtain ⟨h3, g4⟩ := and2 g3
      obtain ⟨h4, h5⟩ := and2 g4
      obtain rfl := of_decide_eq_true h1
      obtain ⟨ts, et⟩ := Option.isSome_iff_exists.mp h0
      obtain ⟨k, tp, rfl⟩ := dTup_inv et
      exact di_enumK (glB_ok (by rw [hx.sc]; exact h3)) (hx.bis _ (of_decide_eq_true h2)) h4 (sE e c X W y hx h5)
    · cases h
  | .items o, c, X, W, tg, x, hx, h => by
    unfold isI at h
    split at h
    · rename_i u m b e1
      obtain ⟨ap, cp, rfl, hl⟩ := dMeth_inv e1
      obtain ⟨h0, g1⟩ := and2 h
      obtain ⟨h1, g2⟩ := and2 g1
      obtain ⟨h2, g3⟩ := and2 g2
      obtain ⟨h3, h4⟩ := and2 g3
      obtain rfl := of_decide_eq_true h1
      obtain ⟨ts, et⟩ := Option.isSome_iff_exists.mp h0
      obtain ⟨k, tp, rfl⟩ := dTup_inv et
      exact di_items h3 (by rw [hl]; exact h2) (sE o c X W u hx h4)
    · cases h
  | .keys o, c, X, W, tg, x, hx, h => by
    unfold isI at h
    exact di_keys (sE o c X W x hx h)
end
end
end Vp
namespace Vp
open PySem PySem.Spec PyProof.Rows L2

def NxP (K : PySem.W.Frag) (F : Hp) (M : Mo) (H : Hp) (R : L2.St → Hp → Prop) (R' : Rho → Mo → Prop) : Prop := ∀ ρ' M', R' ρ' M' → ∀ F' H' σ', Step K F M H F' M' H' → RepE K F' σ' ρ' → R σ' H'
def ExP (K : PySem.W.Frag) (F : Hp) (M : Mo) (H : Hp) (W : WX) (R' : Value → List (Str × D) → Rho → Mo → Prop) : Prop := ∀ c fs ρ' M', R' c fs ρ' M' → ∀ F' H' σ' d, Step K F M H F' M' H' → RepE K F' σ' ρ' → RepX K F' H H' d fs → W c d σ' H'
structure EndP (K : PySem.W.Frag) (F : Hp) (M : Mo) (H : Hp) (W : WX) (D : Ends) (Kd : EndsD) : Prop where
  nx : NxP K F M H D.nx Kd.nx
  rt : PV K F M H D.rt Kd.rt
  bk : NxP K F M H D.bk Kd.bk
  ct : NxP K F M H D.ct Kd.ct
  ex : ExP K F M H W Kd.ex
section
variable {K : PySem.W.Frag} {F F1 H H1 : Hp} {M M1 : Mo} {W : WX} {D : Ends} {Kd : EndsD}
theorem NxP.step {R : L2.St → Hp → Prop} {R' : Rho → Mo → Prop} (s : Step K F M H F1 M1 H1) (p : NxP K F M H R R') : NxP K F1 M1 H1 R R' := fun ρ' M' h F' H' σ' t r => p ρ' M' h F' H' σ' (s.trans t) r
theorem EndP.step (s : Step K F M H F1 M1 H1) (p : EndP K F M H W D Kd) : EndP K F1 M1 H1 W D Kd :=
  ⟨p.nx.step s, p.rt.step s, p.bk.step s, p.ct.step s, fun c fs ρ' M' h F' H' σ' d t r x => p.ex c fs ρ' M' h F' H' σ' d (s.trans t) r (x.back s)⟩
theorem EndP.px (p : EndP K F M H W D Kd) {σ : L2.St} {ρ : Rho} (r : RepE K F σ ρ) : PX K F M H W σ (fun c fs M1 => Kd.ex c fs ρ M1) := fun c fs M' h F' H' d t x => p.ex c fs ρ M' h F' H' σ d t (r.mono t.ff) x
end
abbrev WS := EndsD → Rho → Mo → Prop
def tS (K : PySem.W.Frag) (W : WX) (w : WS) : TS := fun D σ H => ∃ F M ρ Kd, Sat K F H M ∧ RepE K F σ ρ ∧ w Kd ρ M ∧ EndP K F M H W D Kd
section
variable {X : Cx} {W : WX} {we wo wi' : VE} {wt : WT} {wl : WL} {w1 w2 : WS} {pos : Pos}
theorem ds_asg {t e : Expr} {tg : Tg} (hn : noCut e = true) (hp : parOk t e = true) (hs : noStar t = true) (he : PE X e (tE X.K W we)) (hg : PG X t (tG X.K tg)) :
    PS X (.Assign [t] e pos) (tS X.K W fun K ρ M => we ρ M (fun d M1 => ∃ ρ', bindT tg d ρ = some ρ' ∧ K.nx ρ' M1) (fun c fs M1 => K.ex c fs ρ M1)) := by
  refine PS.weak (ps_asg he hg (noCut_swaps hn) ?_ (by rw [asg_cons hs]; rfl)) fun D σ H h => ?_
  · cases t <;> first
      | rfl
      | (cases e <;> first | rfl | cases hp)
  · obtain ⟨F, M, ρ, Kd, s, re, h, ep⟩ := h
    refine ⟨F, M, ρ, _, _, s, re, h, fun d M1 ⟨ρ', hb, q⟩ F1 H1 v st r => ?_, ep.px re⟩
    exact ⟨F1, d, ρ, ρ', st.fh, r, re.mono st.ff, hb, fun σ' r' _ => ep.nx ρ' M1 q F1 H1 σ' st r'⟩
theorem ds_setC {i : Nat} {s : Stmt} {t : TE} (h : PS X s (tAsg t (gName i))) (hw : ∀ σ H Q, tE X.K W we σ H Q → t σ H Q) :
    PS X s (tS X.K W fun K ρ M => we ρ M (fun d M1 => K.nx (ρ.set i (some d)) M1) (fun c fs M1 => K.ex c fs ρ M1)) := by
  refine PS.weak h fun D σ H h => ?_
  obtain ⟨F, M, ρ, Kd, s, re, h, ep⟩ := h
  refine hw σ H _ ⟨F, M, ρ, _, _, s, re, h, fun d M1 q F1 H1 v st r => ?_, ep.px re⟩
  exact ep.nx _ M1 q F1 H1 _ st ((re.mono st.ff).set r)
theorem aug_ok {op : Operator} (h : supA op = true) : ∃ r : R2, OpR X (inplaceOp op) r ∧ OpL X.K r (fun a b M Q => ∃ z, augV op a b = some z ∧ Q z M) := by
  cases op with
  | Add =>
    refine ⟨_, iop_add.or iop_add_str, fun x y d1 d2 F H M Q Q' s rx ry h p => ?_⟩
    obtain ⟨d, e, q⟩ := h
    cases rx with
    | int i =>
      cases ry with
      | int j => cases e; exact .inl ⟨i, j, rfl, rfl, p.here s q (.int _)⟩
      | _ => cases e
    | str i =>
      cases ry with
      | str j =>
        simp only [augV] at e
        split at e
        · rename_i hz
          cases e
          exact .inr ⟨i, j, rfl, rfl, szl hz, p.here s q (.str _)⟩
        · cases e
      | _ => cases e
    | _ => cases e
  | Sub =>
    refine ⟨_, iop_sub, fun x y d1 d2 F H M Q Q' s rx ry h p => ?_⟩
    obtain ⟨d, e, q⟩ := h
    cases rx <;> first | (cases e; done) | skip
    cases ry <;> first | (cases e; done) | skip
    cases e
    exact ⟨_, _, rfl, rfl, p.here s q (.int _)⟩
  | Mult =>
    refine ⟨_, iop_mul, fun x y d1 d2 F H M Q Q' s rx ry h p => ?_⟩
    obtain ⟨d, e, q⟩ := h
    cases rx <;> first | (cases e; done) | skip
    cases ry <;> first | (cases e; done) | skip
    simp only [augV] at e
    split at e
    · rename_i hz
      cases e
      exact ⟨_, _, rfl, rfl, hz, p.here s q (.int _)⟩
    · cases e
  | _ => cases h
theorem ds_aug {i : Nat} {x : Str} {e : Expr} {op : Operator} {q : Pos} (hop : supA op = true) (hN : X.N.Nodup) (hi : X.N[i]? = some x) (hx : Loc X.env.scope x) (hf : X.fn x = true ∨ X.env.scope.names.lookup x = some .local) (he : PE X e (tE X.K W we)) :
    PS X (.AugAssign (.Name x q) op e pos) (tS X.K W fun K ρ M => ∃ x, ρ[i]? = some (some x) ∧ we ρ M (fun y M1 => ∃ z, augV op x y = some z ∧ K.nx (ρ.set i (some z)) M1) (fun c fs M1 => K.ex c fs ρ M1)) := by
  obtain ⟨r, ho, hl⟩ := aug_ok (X := X) hop
  refine PS.weak (ps_aug (ti := r) hN hi hx he ho hf) fun D σ H h => ?_
  obtain ⟨F, M, ρ, Kd, s, re, ⟨d, e1, h⟩, ep⟩ := h
  obtain ⟨v, e2, rv⟩ := re.get i d e1
  refine ⟨v, e2, F, M, ρ, _, _, s, re, h, fun y M1 q F1 H1 u st ru => ?_, ep.px re⟩
  exact hl v u d y F1 H1 M1 _ (fun z M' => Kd.nx (ρ.set i (some z)) M') st.sat (rv.mono st.ff) ru q fun z M' q F' H' v st' rz => ep.nx _ M' q F' H' _ (st.trans st') ((re.mono (st.ff.trans st'.ff)).set rz)
theorem ds_ret {e : Expr} (he : PE X e (tE X.K W we)) : PS X (.Return (some e) pos) (tS X.K W fun K ρ M => we ρ M K.rt (fun c fs M1 => K.ex c fs ρ M1)) := by
  refine PS.weak (ps_ret he) fun D σ H h => ?_
  obtain ⟨F, M, ρ, Kd, s, re, h, ep⟩ := h
  exact ⟨F, M, ρ, _, _, s, re, h, ep.rt, ep.px re⟩
theorem ds_retN : PS X (.Return none pos) (tS X.K W fun K _ M => K.rt .non M) := by
  refine PS.weak ps_retN fun D σ H h => ?_
  obtain ⟨F, M, ρ, Kd, s, re, h, ep⟩ := h
  exact ep.rt _ _ h F H _ (Step.refl s) .non
theorem ds_if {c : Expr} {a b : List Stmt} (hc : PT X c (tT X.K W wt)) (ha : PSs X a (tS X.K W w1)) (hb : PSs X b (tS X.K W w2)) :
    PS X (.If c a b pos) (tS X.K W fun K ρ M => wt ρ M (fun k M1 => if k = true then w1 K ρ M1 else w2 K ρ M1) (fun c fs M1 => K.ex c fs ρ M1)) := by
  refine PS.weak (ps_if hc ha hb) fun D σ H h => ?_
  obtain ⟨F, M, ρ, Kd, s, re, h, ep⟩ := h
  refine ⟨F, M, ρ, _, _, s, re, h, fun k M1 q F1 H1 st => ?_, ep.px re⟩
  cases k with
  | true => exact iteT ⟨F1, M1, ρ, Kd, st.sat, re.mono st.ff, by simpa using q, ep.step st⟩
  | false => exact iteF ⟨F1, M1, ρ, Kd, st.sat, re.mono st.ff, by simpa using q, ep.step st⟩
theorem ds_expr {e : Expr} (hn : noCut e = true) (he : PE X e (tE X.K W we)) : PS X (.Expr e pos) (tS X.K W fun K ρ M => we ρ M (fun _ M1 => K.nx ρ M1) (fun c fs M1 => K.ex c fs ρ M1)) := by
  refine PS.weak (ps_expr he (noCut_swaps hn)) fun D σ H h => ?_
  obtain ⟨F, M, ρ, Kd, s, re, h, ep⟩ := h
  exact ⟨F, M, ρ, _, _, s, re, h, fun d M1 q F1 H1 v st _ => ep.nx ρ M1 q F1 H1 σ st (re.mono st.ff), ep.px re⟩
theorem ds_app {o e : Expr} {ap cp : Pos} (ha : attrOk o = true) (hs : noStar e = true) (hl : (ap.endLine == cp.line) = true) (ho : PE X o (tE X.K W wo)) (he : PE X e (tE X.K W we)) :
    PS X (.Expr (.Call (.Attribute o "append" ap) [e] [] cp) pos) (tS X.K W fun K ρ M => wo ρ M (fun x M1 => ∃ p xs, x = .ref p ∧ M1 p = some (.lst xs) ∧ we ρ M1 (fun y M2 => ∃ ys, M2 p = some (.lst ys) ∧ ys.length < 16777216 ∧ K.nx ρ (updM M2 p (.lst (ys ++ [y])))) (fun c fs M2 => K.ex c fs ρ M2)) (fun c fs M1 => K.ex c fs ρ M1)) := by
  refine PS.weak (ps_expr (pe_bm PySem.F.plainAttrs_list PySem.F.slot_list_append PySem.F.type_list_append mt_append ho (pa_cons he pa_nil (star_cons hs)) (attrOk_ok ha) (by rw [star_cons hs]; rfl) hl (star_cons hs) rfl) rfl) fun D σ H h => ?_
  obtain ⟨F, M, ρ, Kd, s, re, h, ep⟩ := h
  refine ⟨F, M, ρ, _, _, s, re, h, fun x M1 ⟨p, xs, e1, e2, h2⟩ F1 H1 v st rv => ?_, ep.px re⟩
  subst e1
  cases rv
  obtain ⟨_, ho, hp, us, e3, r3⟩ := st.m p _ e2
  subst e3
  refine ⟨.inl ⟨rfl, us, .inl (.inl hp)⟩, F1, M1, ρ, _, _, st.sat, re.mono st.ff, h2, fun y M2 ⟨ys, e4, hz, q⟩ F2 H2 u st2 ru => ?_, (ep.step st).px (re.mono st.ff)⟩
  obtain ⟨_, ho2, hp2, ws, e5, r5⟩ := st2.m p _ e4
  subst e5
  refine ⟨p, ws, u, rfl, rfl, hp2, by rw [r5.length, sizeLine_eq]; exact hz, ?_⟩
  exact ep.nx _ _ q F2 _ σ ((st.trans st2).trans (st2.sat.write e4 (o := .lst (ws ++ [u])) ⟨_, rfl, r5.append (.cons ru .nil)⟩)) (re.mono (st.ff.trans st2.ff))
theorem ds_ext {o e : Expr} {ap cp : Pos} (ha : attrOk o = true) (hs : noStar e = true) (hl : (ap.endLine == cp.line) = true) (ho : PE X o (tE X.K W wo)) (he : PE X e (tE X.K W we)) :
    PS X (.Expr (.Call (.Attribute o "extend" ap) [e] [] cp) pos) (tS X.K W fun K ρ M => wo ρ M (fun x M1 => ∃ p xs, x = .ref p ∧ M1 p = some (.lst xs) ∧ we ρ M1 (fun y M2 => ∃ ys zs, M2 p = some (.lst ys) ∧ seqL' M2 y = some zs ∧ ys.length + zs.length ≤ 16777216 ∧ K.nx ρ (updM M2 p (.lst (ys ++ zs)))) (fun c fs M2 => K.ex c fs ρ M2)) (fun c fs M1 => K.ex c fs ρ M1)) := by
  refine PS.weak (ps_expr (pe_bm PySem.F.plainAttrs_list PySem.F.slot_list_extend PySem.F.type_list_extend mt_extL ho (pa_cons he pa_nil (star_cons hs)) (attrOk_ok ha) (by rw [star_cons hs]; rfl) hl (star_cons hs) rfl) rfl) fun D σ H h => ?_
  obtain ⟨F, M, ρ, Kd, s, re, h, ep⟩ := h
  refine ⟨F, M, ρ, _, _, s, re, h, fun x M1 ⟨p, xs, e1, e2, h2⟩ F1 H1 v st rv => ?_, ep.px re⟩
  subst e1
  cases rv
  obtain ⟨_, ho, hp, us, e3, r3⟩ := st.m p _ e2
  subst e3
  refine ⟨.inl ⟨rfl, us, .inl (.inl hp)⟩, F1, M1, ρ, _, _, st.sat, re.mono st.ff, h2, fun y M2 ⟨ys, zs, e4, e6, hz, q⟩ F2 H2 u st2 ru => ?_, (ep.step st).px (re.mono st.ff)⟩
  obtain ⟨_, ho2, hp2, ws, e5, r5⟩ := st2.m p _ e4
  subst e5
  obtain ⟨b, us2, eb, rb, hb⟩ := lst_rep st2.sat ru e6
  subst eb
  refine ⟨p, b, ws, us2, rfl, rfl, hp2, hb, szl (by rw [r5.length, rb.length]; exact hz), ?_⟩
  exact ep.nx _ _ q F2 _ σ ((st.trans st2).trans (st2.sat.write e4 (o := .lst (ws ++ us2)) ⟨_, rfl, r5.append rb⟩)) (re.mono (st.ff.trans st2.ff))
theorem ds_setIx {o i e : Expr} {p : Pos} (hu : X.A.units + 1 < cLine) (hn : noCut e = true) (hpi : plainI i = true) (he : PE X e (tE X.K W we)) (ho : PE X o (tE X.K W wo)) (hi : PE X i (tE X.K W wi')) :
    PS X (.Assign [.Subscript o i p] e pos) (tS X.K W fun K ρ M => we ρ M (fun d M1 => wo ρ M1 (fun x M2 => wi' ρ M2 (fun k M3 => ∃ p mo, x = .ref p ∧ setV (M3 p) k d = some mo ∧ K.nx ρ (updM M3 p mo)) (fun c fs M2 => K.ex c fs ρ M2)) (fun c fs M2 => K.ex c fs ρ M2)) (fun c fs M1 => K.ex c fs ρ M1)) := by
  refine PS.weak (ps_asg he (pg_sub ho hi (set_any hu) (by intro v; cases i <;> first | rfl | cases hpi)) (show swapsWith e (some (.Subscript o i p)) pos.line X.env = pure false from noCut_swaps hn) (by cases e <;> rfl) rfl) fun D σ H h => ?_
  obtain ⟨F, M, ρ, Kd, s, re, h, ep⟩ := h
  refine ⟨F, M, ρ, _, _, s, re, h, fun d M1 h1 F1 H1 v st1 r1 => ?_, ep.px re⟩
  refine ⟨F1, M1, ρ, _, _, st1.sat, re.mono st1.ff, h1, fun x M2 h2 F2 H2 u st2 r2 => ?_, (ep.step st1).px (re.mono st1.ff)⟩
  refine ⟨F2, M2, ρ, _, _, st2.sat, re.mono (st1.ff.trans st2.ff), h2, fun k M3 ⟨a, mo, e1, e3, q⟩ F3 H3 w st3 r3 => ?_, (ep.step (st1.trans st2)).px (re.mono (st1.ff.trans st2.ff))⟩
  subst e1
  cases r2
  have st := (st1.trans st2).trans st3
  exact setl st3.sat r3 (r1.mono (st2.ff.trans st3.ff)) e3 fun F' H' st4 => ep.nx _ _ q F' H' σ (st.trans st4) (re.mono (st.ff.trans st4.ff))
theorem ds_rvs {o : Expr} {ap cp : Pos} (ha : attrOk o = true) (hl : (ap.endLine == cp.line) = true) (ho : PE X o (tE X.K W wo)) :
    PS X (.Expr (.Call (.Attribute o "reverse" ap) [] [] cp) pos) (tS X.K W fun K ρ M => wo ρ M (fun x M1 => ∃ p xs, x = .ref p ∧ M1 p = some (.lst xs) ∧ K.nx ρ (updM M1 p (.lst xs.reverse))) (fun c fs M1 => K.ex c fs ρ M1)) := by
  refine PS.weak (ps_expr (pe_bm0 PySem.F.plainAttrs_list PySem.F.slot_list_reverse PySem.F.type_list_reverse mt_reverse ho (attrOk_ok ha) hl) rfl) fun D σ H h => ?_
  obtain ⟨F, M, ρ, Kd, s, re, h, ep⟩ := h
  refine ⟨F, M, ρ, _, _, s, re, h, fun x M1 ⟨p, xs, e1, e2, q⟩ F1 H1 v st rv => ?_, ep.px re⟩
  subst e1
  cases rv
  obtain ⟨_, ho, hp, us, e3, r3⟩ := st.m p _ e2
  subst e3
  have rr : RepL X.K F1 us.reverse xs.reverse := r3.reverse
  exact ⟨.inl ⟨rfl, us, .inl (.inl hp)⟩, p, us, rfl, rfl, hp, ep.nx _ _ q F1 _ σ (st.trans (st.sat.write e2 (o := .lst us.reverse) ⟨_, rfl, rr⟩)) (re.mono st.ff)⟩
theorem ds_setT {o e : Expr} {es : List Expr} {k : Nat} {p p2 : Pos} (hu : X.A.units + 1 < cLine) (hn : noCut e = true) (he : PE X e (tE X.K W we)) (ho : PE X o (tE X.K W wo)) (hi : PA X es (tL X.K W wl)) :
    PS X (.Assign [.Subscript o (.Tuple es k p2) p] e pos) (tS X.K W fun K ρ M => we ρ M (fun d M1 => wo ρ M1 (fun x M2 => wl ρ M2 (fun ds M3 => ∃ p kvs ks, x = .ref p ∧ M3 p = some (.dT kvs) ∧ keyL ds = some ks ∧ kvs.length < 16777216 ∧ ds.length ≤ 16777216 ∧ K.nx ρ (updM M3 p (.dT (putD kvs ks d)))) (fun c fs M2 => K.ex c fs ρ M2)) (fun c fs M2 => K.ex c fs ρ M2)) (fun c fs M1 => K.ex c fs ρ M1)) := by
  refine PS.weak (ps_asg he (pg_sub ho (pe_tup hi) (set_any hu) (by intro v; rfl)) (show swapsWith e (some (.Subscript o (.Tuple es k p2) p)) pos.line X.env = pure false from noCut_swaps hn) (by cases e <;> rfl) rfl) fun D σ H h => ?_
  obtain ⟨F, M, ρ, Kd, s, re, h, ep⟩ := h
  refine ⟨F, M, ρ, _, _, s, re, h, fun d M1 h1 F1 H1 v st1 r1 => ?_, ep.px re⟩
  refine ⟨F1, M1, ρ, _, _, st1.sat, re.mono st1.ff, h1, fun x M2 h2 F2 H2 u st2 r2 => ?_, (ep.step st1).px (re.mono st1.ff)⟩
  refine ⟨F2, M2, ρ, _, _, st2.sat, re.mono (st1.ff.trans st2.ff), h2, fun ds M3 ⟨a, kvs, ks, e1, e2, e3, hz, hz2, q⟩ F3 H3 vs st3 r3 => ⟨szl (by rw [r3.length]; exact hz2), fun t ht => ?_⟩, (ep.step (st1.trans st2)).px (re.mono (st1.ff.trans st2.ff))⟩
  subst e1
  cases r2
  have stn := st3.sat.newH ht (.tup vs)
  have st := ((st1.trans st2).trans st3).trans stn
  obtain ⟨_, ho, h2, ws, rfl, hk, r4⟩ := stn.sat.m a _ e2
  have e5 := keys_rep r3 e3
  obtain ⟨k1, k2⟩ := putK_rep (k := ks) hk r4 (r1.mono (st2.ff.trans st3.ff))
  have hl : ws.length < sizeLine := by
    have := congrArg List.length hk
    rw [List.length_map, List.length_map] at this
    rw [this, sizeLine_eq]; exact hz
  exact .inr ⟨a, _, rfl, .inr ⟨ws, ks, t, h2, rfl, by rw [upd_same, e5], hl, rfl⟩, ep.nx _ _ q F3 _ σ (st.trans (stn.sat.write e2 (o := .dT (putK ws ks v)) ⟨_, rfl, k1, k2⟩)) (re.mono (((st1.trans st2).trans st3).ff))⟩
theorem swaps_attr {e o : Expr} {f : Str} {p : Pos} {l : Nat} {env : Env} : swapsWith e (some (.Attribute o f p)) l env = pure false := by cases e <;> rfl
theorem ds_setF {o e : Expr} {f : Str} {p : Pos} {fls : List (Addr × Str)} (hf : ∀ y ∈ fls, Cls X.K y.1 ∧ NoAttr X.K y.1 y.2) (he : PE X e (tE X.K W we)) (ho : PE X o (tE X.K W wo)) :
    PS X (.Assign [.Attribute o f p] e pos) (tS X.K W fun K ρ M => we ρ M (fun d M1 => wo ρ M1 (fun x M2 => ∃ p C fs, x = .ref p ∧ M2 p = some (.ins C fs) ∧ (C, f) ∈ fls ∧ fs.length < 1000 ∧ K.nx ρ (updM M2 p (.ins C (putFD f d fs)))) (fun c fs M2 => K.ex c fs ρ M2)) (fun c fs M1 => K.ex c fs ρ M1)) := by
  refine PS.weak (ps_fld ho he swaps_attr) fun D σ H h => ?_
  obtain ⟨F, M, ρ, Kd, s, re, h, ep⟩ := h
  refine ⟨F, M, ρ, _, _, s, re, h, fun d M1 h1 F1 H1 v st1 r1 => ?_, ep.px re⟩
  refine ⟨F1, M1, ρ, _, _, st1.sat, re.mono st1.ff, h1, fun x M2 ⟨a, C, fs, e1, e2, hm, hz, q⟩ F2 H2 u st2 r2 => ?_, (ep.step st1).px (re.mono st1.ff)⟩
  subst e1
  cases r2
  obtain ⟨_, hho, hp, dx, ws, rfl, hks, r3⟩ := st2.m a _ e2
  obtain ⟨c1, c2⟩ := hf _ hm
  obtain ⟨k1, k2⟩ := putF_rep (f := f) (r1.mono st2.ff) hks r3
  have hl : ws.length < 1000 := by
    have := congrArg List.length hks
    rw [List.length_map, List.length_map] at this
    omega
  refine ⟨a, C, dx, ws, rfl, hp, c1, c2, hl, ?_⟩
  have st := st1.trans st2
  exact ep.nx _ _ q F2 _ σ (st.trans (st2.sat.write e2 (o := .ins C dx (putF f v ws)) ⟨dx, _, rfl, k1, k2⟩)) (re.mono st.ff)
theorem ds_augF {o e : Expr} {f : Str} {op : Operator} {p : Pos} {fls : List (Addr × Str)} (hf : ∀ y ∈ fls, Cls X.K y.1 ∧ NoAttr X.K y.1 y.2) (hop : supA op = true) (he : PE X e (tE X.K W we)) (ho : PE X o (tE X.K W wo)) :
    PS X (.AugAssign (.Attribute o f p) op e pos) (tS X.K W fun K ρ M => wo ρ M (fun x M1 => ∃ p C fs d, x = .ref p ∧ M1 p = some (.ins C fs) ∧ (C, f) ∈ fls ∧ fs.lookup f = some d ∧ we ρ M1 (fun y M2 => ∃ z gs, augV op d y = some z ∧ M2 p = some (.ins C gs) ∧ gs.length < 1000 ∧ K.nx ρ (updM M2 p (.ins C (putFD f z gs)))) (fun c fs M2 => K.ex c fs ρ M2)) (fun c fs M1 => K.ex c fs ρ M1)) := by
  obtain ⟨r, hr, hl⟩ := aug_ok (X := X) hop
  refine PS.weak (ps_fldaug (rd := r) ho he hr) fun D σ H h => ?_
  obtain ⟨F, M, ρ, Kd, s, re, h, ep⟩ := h
  refine ⟨F, M, ρ, _, _, s, re, h, fun x M1 ⟨a, C, fs, d, e1, e2, hm, hd, h2⟩ F1 H1 v st1 r1 => ?_, ep.px re⟩
  subst e1
  cases r1
  obtain ⟨_, hho, hp, dx, ws, rfl, hks, r3⟩ := st1.m a _ e2
  obtain ⟨c1, c2⟩ := hf _ hm
  rcases lookup_rep (f := f) hks r3 with ⟨_, hn⟩ | ⟨v', d', h3, h4, rv⟩
  · rw [hn] at hd; cases hd
  · rw [h4] at hd; cases hd
    refine ⟨a, C, dx, ws, v', rfl, hp, c1, c2, h3, F1, M1, ρ, _, _, st1.sat, re.mono st1.ff, h2, fun y M2 ⟨z, gs, ez, e4, hz, q⟩ F2 H2 u st2 r2 => ?_, (ep.step st1).px (re.mono st1.ff)⟩
    refine hl v' u d y F2 H2 M2 _ (fun z' M' => z' = z ∧ M' = M2) st2.sat (rv.mono st2.ff) r2 ⟨z, ez, rfl, rfl⟩ fun z' M' ⟨ea, eb⟩ F3 H3 zv st3 rz => ?_
    subst ea eb
    obtain ⟨_, hho2, hp2, dx2, ws2, rfl, hks2, r5⟩ := st3.m a _ e4
    obtain ⟨k1, k2⟩ := putF_rep (f := f) rz hks2 r5
    have hl2 : ws2.length < 1000 := by
      have := congrArg List.length hks2
      rw [List.length_map, List.length_map] at this
      omega
    refine ⟨dx2, ws2, hp2, hl2, ?_⟩
    have st := (st1.trans st2).trans st3
    exact ep.nx _ _ q F3 _ σ (st.trans (st3.sat.write e4 (o := .ins C dx2 (putF f zv ws2)) ⟨dx2, _, rfl, k1, k2⟩)) (re.mono st.ff)
theorem ds_for {t iter : Expr} {body : List Stmt} {tg : Tg} (hns : noSet iter = true) (hp : PassesOwn (model X.prog X.w) X.A X.env X.xe) (hc : X.calm = true) (hi : PI X t iter (tI X.K W wl)) (hg : PG X t (tG X.K tg)) (hb : PSs X body (tS X.K W w1)) :
    PS X (.For t iter body [] pos) (tS X.K W fun K ρ M => wl ρ M (fun ds M1 => vFor w1 tg K ds ρ M1) (fun c fs M1 => K.ex c fs ρ M1)) := by
  refine PS.weak (ps_for hp hc hi hg hb (noSet_fold hns)) fun D σ H h => ?_
  obtain ⟨F, M, ρ, Kd, s, re, h, ep⟩ := h
  refine ⟨F, M, ρ, _, _, s, re, h, fun ds M1 hw F1 H1 J st1 wk => ?_, ep.px re⟩
  refine ⟨fun i m σ2 H2 => m = ds.length - i ∧ i ≤ ds.length ∧ ∃ F2 M2 ρ2, Step X.K F1 M1 H1 F2 M2 H2 ∧ RepE X.K F2 σ2 ρ2 ∧ vFor w1 tg Kd (ds.drop i) ρ2 M2,
    ⟨ds.length, by simp, Nat.zero_le _, F1, M1, ρ, Step.refl st1.sat, re.mono st1.ff, hw⟩, ?_⟩
  rintro i m σ2 H2 ⟨rfl, hi2, F2, M2, ρ2, st2, re2, hw2⟩
  by_cases hlt : i < ds.length
  · refine .inr ⟨wk.go i H2 (st2.ff.trans st2.fh) hlt, fun σ' H' => ∃ F2 M2 ρ2, Step X.K F1 M1 H1 F2 M2 H' ∧ RepE X.K F2 σ' ρ2 ∧ vFor w1 tg Kd (ds.drop (i + 1)) ρ2 M2, fun σ' H' n => ⟨ds.length - (i + 1), by omega, rfl, hlt, n⟩, fun x H3 y => ?_⟩
    obtain ⟨F3, st3, rx⟩ := wk.yld i ds[i] H2 x H3 F2 M2 st2.ff st2.sat (List.getElem?_eq_getElem hlt) y
    rw [List.drop_eq_getElem_cons hlt] at hw2
    obtain ⟨ρ3, hb3, hw3⟩ := hw2
    have stA := st2.trans st3
    refine ⟨F3, ds[i], ρ2, ρ3, st3.fh, rx, re2.mono st3.ff, hb3, fun σ3 re3 _ => ?_⟩
    have stB := st1.trans stA
    refine ⟨F3, M2, ρ3, _, st3.sat, re3, hw3, fun ρ' M' q F' H' σ' st r => ?_, (ep.step stB).rt, (ep.step stB).nx, fun ρ' M' q F' H' σ' st r => ?_, (ep.step stB).ex⟩
    · exact ⟨F', M', ρ', stA.trans st, r, q⟩
    · exact ⟨F', M', ρ', stA.trans st, r, q⟩
  · have e : i = ds.length := by omega
    subst e
    rw [List.drop_length] at hw2
    exact .inl ⟨wk.stop H2 (st2.ff.trans st2.fh), ep.nx ρ2 M2 hw2 F2 H2 σ2 (st1.trans st2) re2⟩
theorem ds_while {c : Expr} {body : List Stmt} (hp : PassesOwn (model X.prog X.w) X.A X.env X.xe) (hc : PT X c (tT X.K W wt)) (hb : PSs X body (tS X.K W w1)) :
    PS X (.While c body [] pos) (tS X.K W fun K ρ M => ∃ n, vWhile wt w1 K n ρ M) := by
  refine PS.weak (ps_while hp hc hb) fun D σ H h => ?_
  obtain ⟨F, M, ρ, Kd, s, re, ⟨n, h⟩, ep⟩ := h
  refine ⟨fun m σ2 H2 => ∃ F2 M2 ρ2, Step X.K F M H F2 M2 H2 ∧ RepE X.K F2 σ2 ρ2 ∧ vWhile wt w1 Kd m ρ2 M2, ⟨n, F, M, ρ, Step.refl s, re, h⟩, ?_⟩
  rintro m σ2 H2 ⟨F2, M2, ρ2, st2, re2, hw⟩
  cases m with
  | zero => exact absurd hw id
  | succ m =>
    refine ⟨F2, M2, ρ2, _, _, st2.sat, re2, hw, fun k M3 q F3 H3 st3 => ?_, (ep.step st2).px re2⟩
    have st := st2.trans st3
    cases k with
    | true =>
      have q : w1 { Kd with nx := vWhile wt w1 Kd m, ct := vWhile wt w1 Kd m, bk := Kd.nx } ρ2 M3 := by simpa using q
      refine iteT ⟨fun σ' H' => ∃ F2 M2 ρ2, Step X.K F M H F2 M2 H' ∧ RepE X.K F2 σ' ρ2 ∧ vWhile wt w1 Kd m ρ2 M2, fun σ' H' n => ⟨m, Nat.lt_succ_self m, n⟩, ?_⟩
      exact ⟨F3, M3, ρ2, _, st3.sat, re2.mono st3.ff, q, fun ρ' M' q F' H' σ' s' r => ⟨F', M', ρ', st.trans s', r, q⟩, (ep.step st).rt, (ep.step st).nx, fun ρ' M' q F' H' σ' s' r => ⟨F', M', ρ', st.trans s', r, q⟩, (ep.step st).ex⟩
    | false =>
      have q : Kd.nx ρ2 M3 := by simpa using q
      exact iteF (ep.nx ρ2 M3 q F3 H3 σ2 st (re2.mono st3.ff))
theorem ds_pass : PS X (.Pass pos) (tS X.K W fun K ρ M => K.nx ρ M) := PS.weak ps_pass fun D σ H ⟨F, M, ρ, Kd, s, re, h, ep⟩ => ep.nx ρ M h F H σ (Step.refl s) re
theorem ds_brk : PS X (.Break pos) (tS X.K W fun K ρ M => K.bk ρ M) := PS.weak ps_break fun D σ H ⟨F, M, ρ, Kd, s, re, h, ep⟩ => ep.bk ρ M h F H σ (Step.refl s) re
theorem ds_cont : PS X (.Continue pos) (tS X.K W fun K ρ M => K.ct ρ M) := PS.weak ps_continue fun D σ H ⟨F, M, ρ, Kd, s, re, h, ep⟩ => ep.ct ρ M h F H σ (Step.refl s) re
theorem dss_nil : PSs X [] (tS X.K W fun K ρ M => K.nx ρ M) := PSs.weak pss_nil fun D σ H ⟨F, M, ρ, Kd, s, re, h, ep⟩ => ep.nx ρ M h F H σ (Step.refl s) re
theorem dss_cons {st : Stmt} {r : List Stmt} (h1 : PS X st (tS X.K W w1)) (h2 : PSs X r (tS X.K W w2)) : PSs X (st :: r) (tS X.K W fun K ρ M => w1 { K with nx := fun ρ1 M1 => w2 K ρ1 M1 } ρ M) := by
  refine PSs.weak (pss_cons h1 h2) fun D σ H h => ?_
  obtain ⟨F, M, ρ, Kd, s, re, h, ep⟩ := h
  exact ⟨F, M, ρ, _, s, re, h, fun ρ' M' q F' H' σ' st r => ⟨F', M', ρ', Kd, st.sat, r, q, ep.step st⟩, ep.rt, ep.bk, ep.ct, ep.ex⟩
theorem dss_frz {r : List Stmt} {i : Nat} (h : PSs X r (tS X.K W w1)) : PSs X r (tS X.K W fun K ρ M => ∃ p ds, ρ[i]? = some (some (.ref p)) ∧ M p = some (.lst ds) ∧ w1 K (ρ.set i (some (.lst ds))) (delM M p)) := by
  refine PSs.weak h fun D σ H h => ?_
  obtain ⟨F, M, ρ, Kd, s, re, ⟨p, ds, e1, e2, h⟩, ep⟩ := h
  obtain ⟨v, e3, rv⟩ := re.get i _ e1
  cases rv
  obtain ⟨f0, ho, hp, xs, e4, r4⟩ := s.m p _ e2
  subst e4
  have st := s.freeze e2 hp
  refine ⟨_, _, _, Kd, st.sat, ?_, h, ep.step st⟩
  have e5 : σ = σ.set i (some (.ref p)) := by
    apply List.ext_getElem?
    intro j
    by_cases hj : i = j
    · subst hj
      rw [List.getElem?_set_self (List.getElem?_eq_some_iff.mp e3).1, e3]
    · rw [List.getElem?_set_ne hj]
  rw [e5]
  exact (re.mono st.ff).set (.lst (SqL.of upd_same) (r4.mono st.ff))
end
end Vp
namespace Vp
open PySem PySem.Spec PyProof.Rows L2

section
variable {X : Cx} {W : WX} {we wo : VE} {wl : WL} {w1 w2 : WS} {pos : Pos}
/-! ### a dict that changes no more -/
theorem dss_frzF {r : List Stmt} {i : Nat} {f : Str} (h : PSs X r (tS X.K W w1)) : PSs X r (tS X.K W fun K ρ M => ∃ q C fs p kvs, ρ[i]? = some (some (.ref q)) ∧ M q = some (.ins C fs) ∧ fs.lookup f = some (.ref p) ∧ M p = some (.dK kvs) ∧ w1 K ρ (updM (delM M p) q (.ins C (putFD f (.dic (kvs.map (·.1)) (kvs.map (·.2))) fs)))) := by
  refine ⟨fun pins s σ H D I hh => ?_⟩
  obtain ⟨F, M, ρ, Kd, sat, re, ⟨q, C, fs, p, kvs, e1, e2, e3, e4, hw⟩, ep⟩ := hh
  obtain ⟨ws, hp, st⟩ := lock_sat sat e4 e2 e3
  obtain ⟨od, I2⟩ := I.lock hp trivial
  have s1 := st od
  exact h.run pins s σ _ D I2 ⟨_, _, ρ, Kd, s1.sat, re.mono s1.ff, hw, ep.step s1⟩
/-! ### exceptions in the making -/
theorem cx_no {P : Program} {w : World} {outer : List Env} {H : Hp} {s : Shared} {u : Value} {s' : Shared} (h : L2N.CX P w outer H s (fun _ _ _ => False) u s') : False := by
  obtain ⟨a, B, H', cls, d, _, _, _, _, _, _, _, h⟩ := h
  exact h
theorem exo_ne_xd {e C : Addr} {d : Option Addr} {fs : List (Str × V)} : exo e C d ≠ .xd fs := fun z => by unfold exo at z; cases z
theorem exd_ne_xd {e : Addr} {gs fs : List (Str × V)} : exd e gs ≠ .xd fs := fun z => by unfold exd at z; cases z
theorem raise_key {K : PySem.W.Frag} {g : Xc} {σ : L2.St} {H : Hp} (h : tS K W (fun Kd ρ M => wl ρ M (fun ds M1 => ds.length = g.n ∧ ∃ fs, g.flds ds = some fs ∧ Kd.ex (.ref g.cls) fs ρ M1) (fun c fs M1 => Kd.ex c fs ρ M1)) D0 σ H) (hn : g.n ≤ 1000) :
    tMkO g.cls (spOf K (g.n + 1) (xcon g)) [] (tL K W wl) σ H fun cls d H' => W cls d σ H' := by
  obtain ⟨F, M, ρ, Kd, s, re, h, ep⟩ := h
  refine ⟨F, M, ρ, _, _, s, re, h, fun ds M1 ⟨hl, fs, hf, q⟩ F1 H1 vs st1 r1 => ⟨by rw [r1.length, hl]; exact hn, fun a ha => ?_⟩, ep.px re⟩
  obtain ⟨f1, m1⟩ := st1.sat.none ha
  have stA := st1.sat.newM ha (o := exo a g.cls none) (mo := .exo a g.cls none) rfl
  rw [List.append_nil]
  refine ⟨F1, _, .ref a :: ds, fun r M2 => r = .non ∧ ∃ d, M1 d = none ∧ d ≠ a ∧ M2 = updM (updM (updM M1 a (.exo a g.cls none)) d (.exd d fs)) a (.exo a g.cls (some d)), fun _ _ _ => False, stA.sat, .cons (.ref a) r1, by simpa using hl, ⟨a, ds, fs, rfl, updM_same, hf, fun d hd hne => ⟨rfl, d, by rwa [updM_ne hne] at hd, hne, rfl⟩⟩, fun dv M2 hq F' H' v st rv => ?_, fun _ _ _ h => h.elim⟩
  obtain ⟨rfl, d, hd, hne, rfl⟩ := hq
  cases rv
  refine ⟨rfl, ?_⟩
  have mA : (updM (updM (updM M1 a (.exo a g.cls none)) d (.exd d fs)) a (.exo a g.cls (some d))) a = some (.exo a g.cls (some d)) := updM_same
  have mD : (updM (updM (updM M1 a (.exo a g.cls none)) d (.exd d fs)) a (.exo a g.cls (some d))) d = some (.exd d fs) := by rw [updM_ne hne, updM_same]
  obtain ⟨fa, ho, hA, rfl⟩ := st.m a _ mA
  obtain ⟨fd, hod, hD, ws, rfl, hks, rr⟩ := st.m d _ mD
  have h1d : H1 d = none := by
    cases e : H1 d with
    | none => rfl
    | some o =>
      have z := st.newM d (by rw [upd_ne hne, e]; simp) (by rw [updM_ne hne]; exact hd)
      rw [mD] at z; cases z
  refine ⟨d, ws, hA, hD, h1d, ?_⟩
  have h0d : H d = none := by
    cases e : H d with
    | none => rfl
    | some o => exact absurd h1d (st1.th d (by rw [e]; simp))
  have off : ∀ b, b ≠ a → b ≠ d → upd (del H' a) d (.xd ws) b = H' b := fun b n1 n2 => by rw [upd_ne n2, del_ne n1]
  have stF : Step K F1 M1 H1 F' M1 (upd (del H' a) d (.xd ws)) := by
    refine ⟨st.ff, fun b o e => ?_, fun b mo e => ?_, fun b o e n => ?_, fun b e n f => ?_, fun b _ n => n, fun b e => ?_⟩
    · have n1 : b ≠ a := fun z => by rw [z, fa] at e; cases e
      have n2 : b ≠ d := fun z => by rw [z, fd] at e; cases e
      rw [off b n1 n2]; exact st.fh b o e
    · have n1 : b ≠ a := fun z => by rw [z, m1] at e; cases e
      have n2 : b ≠ d := fun z => by rw [z, hd] at e; cases e
      obtain ⟨f2, ho, h2, r2⟩ := st.m b mo (by rw [updM_ne n1, updM_ne n2, updM_ne n1]; exact e)
      exact ⟨f2, ho, by rw [off b n1 n2]; exact h2, r2⟩
    · have n1 : b ≠ a := fun z => by rw [z, ha] at e; cases e
      have n2 : b ≠ d := fun z => by rw [z, h1d] at e; cases e
      rw [off b n1 n2]
      exact st.keep b o (by rw [upd_ne n1]; exact e) (by rw [updM_ne n1]; exact n)
    · have n1 : b ≠ a := fun z => by rw [z] at e; exact e ha
      exact st.newF b (by rw [upd_ne n1]; exact e) (by rw [updM_ne n1]; exact n) f
    · have n1 : b ≠ a := fun z => by rw [z] at e; exact e ha
      have n2 : b ≠ d := fun z => by rw [z] at e; exact e h1d
      rw [off b n1 n2]
      exact st.th b (by rw [upd_ne n1]; exact e)
  exact ep.ex (.ref g.cls) fs ρ M1 q F' _ σ (some d) (st1.trans stF) (re.mono (st1.ff.trans st.ff)) ⟨d, ws, rfl, h0d, fd, upd_same, hks, rr⟩
/-- a new exception of the text's own class, its context None -/
theorem pmk_oexN {CX : CXT} {x : Str} {e : Expr} {es : List Expr} {ta : TA} {p pos : Pos} {C fI : Addr} {k : Nat} {fd : FuncData} {ps : List Str} {sp : Sp} (T : OexC X.K C) (iC : PySem.W.findIn X.K (.ref C) "__init__" = some (some (.ref fI))) (tI : PySem.W.typeIn X.K (.ref fI) = some (.type "function"))
    (F1 : FnOk X.prog X.w X.K X.mg X.base CX k fI fd ps sp) (room : Room (k + 1) X.A) (bd : Binds X.K fd ps []) (px : Passes CX X (fun _ _ _ => False)) (hg : Gl X x) (hm : X.mg x = some (.ref C)) (args : PA X (e :: es) ta)
    (nd : (x == ("__debug__" : Str)) = false) (s1 : starEach (e :: es) X.env = (false, eval e X.env) :: starEach es X.env) (s2 : (backTo pos (starEach es X.env)).any (·.1) = false) : L2N.PMk X (.Call (.Name x p) (e :: es) [] pos) (tMkO C sp [] ta) := by
  intro pins s σ H Q I h
  obtain ⟨nm, qn, N, bs, bm, sn, sub, ab, col, dd, k0, k1, k2, k3, k5, hC, hbm⟩ := T.cls
  refine wpAny_Call_Name_kw (ld_glob I hg hm ?_ nd)
  refine PySem.W.callWith_K (h₀ := X.base) I.ok.mod.kin T.kC (thn (args.run pos pins s σ H _ I h) fun us t1 got => ?_) s1 s2
  obtain ⟨vs, H1, I1, r1, hz, q1⟩ := got
  refine ⟨I1.kIn, ?_⟩
  show wpAny _ _ (call (.ref C) us) _ _ _
  obtain ⟨hp, gn, dr, tk0, os⟩ := t1
  have sz1 : hp.objs.size ≤ hp.objs.size + 1 := Nat.le_succ _
  have hq := q1 (hp.objs.size + 1) (I1.hok.fresh sz1)
  rw [List.append_nil] at hq
  have up2 : ∀ b o, hp.get? b = some o → ((hp.push (PySem.W.kdv_tup us)).push (PySem.HandSPX.excO C hp.objs.size)).get? b = some o := fun b o z => Heap.get?_push_of_some _ (Heap.get?_push_of_some _ z)
  have at2 : ((hp.push (PySem.W.kdv_tup us)).push (PySem.HandSPX.excO C hp.objs.size)).get? (hp.objs.size + 1) = some (PySem.HandSPX.excO C hp.objs.size) := by heap_get
  have I2 : Inv X pins σ (upd H1 (hp.objs.size + 1) (exo (hp.objs.size + 1) C none)) ⟨(hp.push (PySem.W.kdv_tup us)).push (PySem.HandSPX.excO C hp.objs.size), gn, dr, tk0, os⟩ := I1.laid (t' := tk0) (a := hp.objs.size + 1) (o := exo (hp.objs.size + 1) C none) up2 sz1 (exo_ok at2)
  have r2 : Vals (V.ref (hp.objs.size + 1) :: vs) (Value.ref (hp.objs.size + 1) :: us) := .cons rfl r1
  have len2 : (Value.ref (hp.objs.size + 1) :: us).length = ps.length := by rw [← r2.length]; exact F1.len _ _ _ _ hq
  have few : us.length ≤ sizeLine := by rw [← Paired.length r1, sizeLine_eq]; omega
  have bd2 := bd _ (Value.ref (hp.objs.size + 1) :: us) I2.kIn (by rw [List.append_nil]; exact len2)
  rw [List.append_nil] at bd2
  refine wpAny_call (PySem.HandSPX.call_own F.excBase_ValueError (fun Y => PySem.HandSPX.refsVE_contains Y bm hbm) (I1.kIn _ _ hC) (PySem.W.looks_findIn I1.kIn iC) (fun self => PySem.W.bind_fn I1.kIn self tI) few (codeAny_mono (F1.run _ X.stack _ _ ⟨Value.ref (hp.objs.size + 1) :: us, []⟩ (Value.ref (hp.objs.size + 1) :: us) _ _ (fun _ _ _ => False) (room.make C us []) (I2.env0.make C us []) bd2 r2 hq) fun r t3 hq2 => ?_))
  cases r with
  | error er => exact px pins σ _ _ er t3 I2 hq2
  | ok fl =>
    cases fl with
    | ret u =>
      obtain ⟨v, H2, os2, bare2, un2, hok2, rv, ev, d, fs, ea, ed, hd1, q2⟩ := hq2
      subst ev
      obtain ⟨h2, g2, d2, t2, os'⟩ := t3
      obtain ⟨t0, G, J, kG, ge, hoe, na⟩ := mk_end0 (d2 := d2) (t2 := t2) I1 sz1 up2 un2 hok2 os2 bare2 ea ed hd1
      exact ⟨rv, hp.objs.size + 1, _, _, ⟨G, g2, d2, t2, os'⟩, _, .ref C, some d, rfl, J, kG, ge, hoe, ⟨rfl, rfl, fun ws hw => by cases hw; rfl⟩, rfl, rfl, na, rfl, bare2, raises_own T.exC T.tyC, q2⟩
    | next => exact hq2.elim
    | brk => exact hq2.elim
    | cont => exact hq2.elim
theorem ds_rais {e : Expr} {es : List Expr} {g : Xc} {k : Nat} {x : Str} {p p2 : Pos} (hc : X.calm = true) (tk : L2N.Takes X W) (hr : Room k X.A) (hf : XcIs X k g) (hx : g.name = x) (hg : Gl X x) (hn : okNm x = true) (hn2 : g.n ≤ 1000) (ha : PA X (e :: es) (tL X.K W wl)) (hs : (e :: es).all noStar = true) :
    PS X (.Raise (some (.Call (.Name x p) (e :: es) [] p2)) none pos) (tS X.K W fun Kd ρ M => wl ρ M (fun ds M1 => ds.length = g.n ∧ ∃ fs, g.flds ds = some fs ∧ Kd.ex (.ref g.cls) fs ρ M1) (fun c fs M1 => Kd.ex c fs ρ M1)) := by
  subst hx
  obtain ⟨j, f, fd, ps, hj, T, iC, tI, F1, hm, hb⟩ := hf
  obtain ⟨h1, h2⟩ := Bool.and_eq_true_iff.mp (by simpa using hs : (noStar e && es.all noStar) = true)
  refine PS.weak (L2N.ps_raise hc tk (pmk_oexN T iC tI F1 (hr.mono hj) hb (fun _ _ _ _ _ _ _ c => (cx_no c).elim) hg hm ha (okNm1 hn) (star_cons h1) (star_any h2))) fun D σ H h => ?_
  exact raise_key h hn2
/-! ### B.__init__(o, f'..'), o.f = e -/
theorem toIndex_len (x y : Str) : (x ++ y).length = x.length + y.length := Str.length_append x y
/-- the parts of the text -/
theorem js_run {Γ : Gam} {c : SC} (hx : XO X Γ W c) (sE' : ∀ e x, isE c e x = true → PE X x (tE X.K W (vE Γ e))) : ∀ (js : Js) (es : List Expr), isJs c js es = true → ∃ ts, PJ X es ts ∧ ∀ (acc : Str) (F : Hp) (M : Mo) (ρ : Rho) (σ : L2.St) (H : Hp) (Q : Str → Hp → Prop) (Q' : Mo → Prop) (X' : XQ), acc.length ≤ 16777216 → Sat X.K F H M → RepE X.K F σ ρ → vJs Γ js acc.length ρ M Q' X' → (∀ M', Q' M' → ∀ F' H' out, Step X.K F M H F' M' H' → Q out H') → PX X.K F M H W σ X' → tJs ts acc σ H Q
  | .nil, [], _ => ⟨[], .nil, fun acc F M ρ σ H Q Q' X' hz s re h q px => q M h F H acc (Step.refl s)⟩
  | .nil, _ :: _, h => by unfold isJs at h; cases h
  | .c x r, [], h => by unfold isJs at h; cases h
  | .f e r, [], h => by unfold isJs at h; cases h
  | .c x r, e :: es, h => by
    unfold isJs at h
    obtain ⟨h1, h2⟩ := and2 h
    obtain ⟨ts, pj, ih⟩ := js_run hx sE' r es h2
    cases e1 : dConst e with
    | none => simp only [e1] at h1; cases h1
    | some k =>
      simp only [e1] at h1
      obtain ⟨kk, p, rfl⟩ := dConst_inv e1
      obtain rfl := of_decide_eq_true h1
      refine ⟨_ :: ts, .cons pe_str pj, fun acc F M ρ σ H Q Q' X' hz s re h q px => ?_⟩
      obtain ⟨hl, h⟩ := h
      exact ⟨x, rfl, szl (by rw [toIndex_len]; exact hl), ih (acc ++ x) F M ρ σ H Q Q' X' (by rw [toIndex_len]; exact hl) s re (by rw [toIndex_len]; exact h) q px⟩
  | .f e r, y :: es, h => by
    unfold isJs at h
    obtain ⟨h1, h2⟩ := and2 h
    obtain ⟨ts, pj, ih⟩ := js_run hx sE' r es h2
    cases e1 : dFmt y with
    | none => simp only [e1] at h1; cases h1
    | some z =>
      simp only [e1] at h1
      obtain ⟨p, rfl⟩ := dFmt_inv e1
      refine ⟨_ :: ts, .cons (pe_fmt (sE' e z h1)) pj, fun acc F M ρ σ H Q Q' X' hz s re h q px => ?_⟩
      refine ⟨F, M, ρ, _, X', s, re, h, fun d1 M1 ⟨m, e2, hl, hr⟩ F1 H1 v1 st1 r1 => ?_, px⟩
      cases r1 with
      | str u =>
        cases e2
        exact .inl ⟨u, rfl, szl (by omega), u, rfl, szl (by rw [toIndex_len]; exact hl), ih (acc ++ u) F1 M1 ρ σ H1 Q Q' X' (by rw [toIndex_len]; exact hl) st1.sat (re.mono st1.ff) (by rw [toIndex_len]; exact hr) (fun M' hq F' H' out st => q M' hq F' H' out (st1.trans st)) (px.step st1)⟩
      | int i =>
        simp only [fmtB] at e2
        split at e2
        · rename_i hz2
          cases e2
          exact .inr ⟨i, rfl, hz2, toString i, rfl, szl (by rw [toIndex_len]; exact hl), ih (acc ++ toString i) F1 M1 ρ σ H1 Q Q' X' (by rw [toIndex_len]; exact hl) st1.sat (re.mono st1.ff) (by rw [toIndex_len]; exact hr) (fun M' hq F' H' out st => q M' hq F' H' out (st1.trans st)) (px.step st1)⟩
        · cases e2
      | _ => cases e2
theorem ds_pei {Γ : Gam} {c : SC} {o a b : Expr} {r : List Expr} {js : Js} {x : Str} {p1 p2 p3 p4 : Pos} (hx : XO X Γ W c) (sE' : ∀ e x, isE c e x = true → PE X x (tE X.K W (vE Γ e))) (hp : PeIs X x) (hg : Gl X x) (hn : okNm x = true) (hs : noStar o = true) (hln : (p2.endLine == p4.line) = true) (ho : PE X o (tE X.K W wo)) (hj : isJs c js (a :: b :: r) = true)
    (hxf : ∀ y ∈ Γ.xfl, OexC X.K y.1) :
    PS X (.Expr (.Call (.Attribute (.Name x p1) "__init__" p2) [o, .JoinedStr (a :: b :: r) p3] [] p4) pos) (tS X.K W fun Kd ρ M => wo ρ M (fun y M1 => vJs Γ js 0 ρ M1 (fun M2 => ∃ a C f, y = .ref a ∧ (C, f) ∈ Γ.xfl ∧ M2 a = some (.exo a C none) ∧ Kd.nx ρ M2) (fun c fs M1 => Kd.ex c fs ρ M1)) (fun c fs M1 => Kd.ex c fs ρ M1)) := by
  obtain ⟨B, mc, hm, hga, hrd, hfc⟩ := hp
  obtain ⟨ts, pj, hjs⟩ := js_run hx sE' js (a :: b :: r) hj
  have pj2 := pe_joined (pos := p3) pj
  have pa := pa_cons ho (pa_cons pj2 pa_nil rfl) (star_cons hs)
  have hpe : PE X (.Call (.Attribute (.Name x p1) "__init__" p2) [o, .JoinedStr (a :: b :: r) p3] [] p4) (tVeI X.K (tCons (tE X.K W wo) (tCons (fun σ H Q => tJs ts Str.empty σ H fun out H1 => Q (V.str out) H1) tNil))) := by
    refine ⟨fun pins s σ H Q I h => ?_⟩
    obtain ⟨pl, hc⟩ := meth_eval (o := .Name x p1) (m := "__init__") (es := [o, .JoinedStr (a :: b :: r) p3]) (apos := p2) (cpos := p4) (env := X.env) rfl (by rw [List.all_cons, hs]; rfl) (by simp) hln
    refine PySem.W.methodCall_KW (ld_glob I hg hm ?_ (okNm1 hn)) hc
    refine PySem.W.method_cls I.kIn hga (PySem.W.cls_value I.kIn hrd hfc rfl ?_)
    show wpAny _ _ (callWith p4 (Value.builtin "ValueError.__init__") [] (backTo p4 (starEach [o, .JoinedStr (a :: b :: r) p3] X.env)) []) _ _ _
    refine PyProof.Rows.callWith_method1 (thn (pa.run p4 pins _ σ H _ (I.tok _) h) fun us s1 ⟨vs, H1, I1, r1, a, C, ws, ev, hl, T, ea, q⟩ => ?_) (star_cons hs) rfl
    subst ev
    cases r1 with
    | @cons _ u0 _ ur ra rw' =>
      obtain rfl : u0 = Value.ref a := ra
      have hlen : ur.length ≤ sizeLine := by rw [← Paired.length rw', sizeLine_eq]; omega
      exact oinit_ok T I1 ea hlen fun s' J => ⟨.non, H1, J, rfl, q⟩
  refine PS.weak (ps_expr hpe rfl) fun D σ H h => ?_
  obtain ⟨F, M, ρ, Kd, s, re, h, ep⟩ := h
  refine ⟨F, M, ρ, _, _, s, re, h, fun d1 M1 h1 F1 H1 v1 st1 r1 => ?_, ep.px re⟩
  refine hjs Str.empty F1 M1 ρ σ H1 _ _ _ (Nat.zero_le _) st1.sat (re.mono st1.ff) h1 (fun M2 hq F2 H2 out st2 => ?_) ((ep.px re).step st1)
  obtain ⟨aa, C, f, e1, hmem, e2, q⟩ := hq
  subst e1
  cases r1
  obtain ⟨_, ho2, h2, rfl⟩ := st2.m aa _ e2
  exact ⟨aa, C, [.str out], rfl, by show 1 ≤ 1000; decide, hxf _ hmem, h2, ep.nx ρ M2 q F2 H2 σ (st1.trans st2) (re.mono (st1.ff.trans st2.ff))⟩
theorem ds_setX {o e : Expr} {f : Str} {p : Pos} {xfl : List (Addr × Str)} (hxf : ∀ y ∈ xfl, PySem.W.findIn X.K (.ref y.1) y.2 = some none ∧ OexC X.K y.1) (hn : noCut e = true) (he : PE X e (tE X.K W we)) (ho : PE X o (tE X.K W wo)) :
    PS X (.Assign [.Attribute o f p] e pos) (tS X.K W fun Kd ρ M => we ρ M (fun d M1 => wo ρ M1 (fun x M2 => ∃ a C, x = .ref a ∧ (C, f) ∈ xfl ∧ ((M2 a = some (.exo a C none) ∧ ∀ dx, M2 dx = none → dx ≠ a → Kd.nx ρ (updM (updM M2 dx (.exd dx [(f, d)])) a (.exo a C (some dx)))) ∨ ∃ dx fs, M2 a = some (.exo a C (some dx)) ∧ M2 dx = some (.exd dx fs) ∧ fs.length ≤ 900 ∧ Kd.nx ρ (updM M2 dx (.exd dx ((f, d) :: fs))))) (fun c fs M2 => Kd.ex c fs ρ M2)) (fun c fs M1 => Kd.ex c fs ρ M1)) := by
  refine PS.weak (ps_ost ho he (noCut_swaps hn)) fun D σ H h => ?_
  obtain ⟨F, M, ρ, Kd, s, re, h, ep⟩ := h
  refine ⟨F, M, ρ, _, _, s, re, h, fun d M1 h1 F1 H1 v st1 r1 => ?_, ep.px re⟩
  refine ⟨F1, M1, ρ, _, _, st1.sat, re.mono st1.ff, h1, fun x M2 ⟨a, C, e1, hm, hq⟩ F2 H2 u st2 r2 => ?_, (ep.step st1).px (re.mono st1.ff)⟩
  subst e1
  cases r2
  obtain ⟨hno, T⟩ := hxf _ hm
  have st := st1.trans st2
  refine ⟨a, C, rfl, T, hno, ?_⟩
  rcases hq with ⟨e2, q⟩ | ⟨dx, fs, e2, e3, hz, q⟩
  · obtain ⟨f2, ho2, h2, rfl⟩ := st2.m a _ e2
    refine .inl ⟨h2, fun dx hd hne => ?_⟩
    have stD := st2.sat.newM hd (o := exd dx [(f, v)]) (mo := .exd dx [(f, d)]) ⟨[(f, v)], rfl, rfl, .cons (r1.mono st2.ff) .nil⟩
    have stE := stD.sat.write (p := a) (by rw [updM_ne (Ne.symm hne)]; exact e2) (o := exo a C (some dx)) (mo := .exo a C (some dx)) rfl
    exact ep.nx ρ _ (q dx (st2.sat.none hd).2 hne) F2 _ σ (st.trans (stD.trans stE)) (re.mono st.ff)
  · obtain ⟨f2, ho2, h2, rfl⟩ := st2.m a _ e2
    obtain ⟨f3, ho3, h3, ws, rfl, hks, rr⟩ := st2.m dx _ e3
    have hl : ws.length ≤ 900 := by
      have := congrArg List.length hks
      rw [List.length_map, List.length_map] at this
      omega
    refine .inr ⟨dx, ws, h2, h3, hl, ?_⟩
    exact ep.nx ρ _ q F2 _ σ (st.trans (st2.sat.write e3 (o := exd dx ((f, v) :: ws)) (mo := .exd dx ((f, d) :: fs)) ⟨_, rfl, by simp [hks], .cons (r1.mono st2.ff) rr⟩)) (re.mono st.ff)
/-! ### try: .. except x as n: .. -/
theorem xd_off {K : PySem.W.Frag} {F H : Hp} {M : Mo} {dd : Addr} {ws : List (Str × V)} (s : MRep K F H M) (h : H dd = some (.xd ws)) : ∀ p mo, M p = some mo → (∀ gs, mo ≠ .xd gs) → p ≠ dd := fun p mo e hn z => by
  subst z
  obtain ⟨_, ho, h2, r⟩ := s p mo e
  rw [h] at h2
  cases h2
  cases mo with
  | lst _ => obtain ⟨_, q, _⟩ := r; cases q
  | dK _ => obtain ⟨_, q, _⟩ := r; cases q
  | ins _ _ => obtain ⟨_, _, q, _⟩ := r; cases q
  | tbl => obtain ⟨_, q, _⟩ := r; cases q
  | dT _ => obtain ⟨_, q, _⟩ := r; cases q
  | exo e1 C1 d1 => exact exo_ne_xd (show L2.exo e1 C1 d1 = .xd ws from r.symm)
  | exd dx fs => obtain ⟨us, q, _⟩ := r; exact exd_ne_xd q.symm
  | xd gs => exact hn gs rfl
/-- the suite's reading -/
def tSuite (K : PySem.W.Frag) (ws : Addr → Value → Addr → WS) : Addr → Value → Option Addr → TS := fun a cls d => match d with
  | some dd => tS K W0 (ws a cls dd)
  | none => fun _ _ _ => False
theorem ds_try {body r : List Stmt} {b0 : Stmt} {x n : Str} {C : Addr} {i : Nat} {np pp : Pos} {wb : WS} {wsu : Addr → Value → Addr → WS} {exm : List ((Value × Addr) × Bool)} (hs : X.stack = X.env :: X.outer) (hf : X.env.frame = some X.env.locals) (hN : X.N.Nodup) (hi : X.N[i]? = some n) (hln : X.env.kindOf n = some .local) (hc : Names X x (.ref C)) (tk : L2N.Takes X W)
    (hem : ∀ y ∈ exm, PySem.W.exmOne X.K y.1.1 (.ref y.1.2) = some y.2)
    (hb : ∀ (W : WX) (pn : List (Addr × Obj)) (xe : Value → Shared → Prop), L2N.Takes (X.tr pn xe) W → PassesOwn (model X.prog X.w) X.A X.env xe → PSs (X.tr pn xe) body (tS X.K W wb))
    (hsu : ∀ (a : Addr) (oe : Obj) (cls : Value) (dd : Addr) (pn : List (Addr × Obj)), L2N.Zn cls (some dd) oe → (∃ vs, oe.data = .fields vs) → PSs (X.suite a ((a, oe) :: pn)) (b0 :: r) (tS X.K W0 (wsu a cls dd))) :
    PS X (.Try body [.ExceptHandler (some (.Name x np)) (some n) (b0 :: r) pp] [] [] pos) (tS X.K W fun Kd ρ M => wb { Kd with ex := fun c fs ρ1 M1 => ∃ b, ((c, C), b) ∈ exm ∧ if b = true then ∀ a dd, (∀ p mo, M1 p = some mo → (∀ gs, mo ≠ .xd gs) → p ≠ dd) → wsu a c dd { nx := fun ρ' M' => Kd.nx (ρ'.set i none) M', rt := Kd.rt, bk := fun ρ' M' => Kd.bk (ρ'.set i none) M', ct := fun ρ' M' => Kd.ct (ρ'.set i none) M', ex := fun _ _ _ _ => False } (ρ1.set i (some (.ref a))) (updM M1 dd (.xd fs)) else Kd.ex c fs ρ1 M1 } ρ M) := by
  refine PS.weak (L2N.ps_try_as (tb := fun W' => tS X.K W' wb) (ts := tSuite X.K wsu) hs hf hN hi hln hc tk hb fun a oe cls d pn hz hv => ?_) fun D σ H h => ?_
  · cases d with
    | none => exact ⟨fun _ _ _ _ _ _ h => h.elim⟩
    | some dd => exact hsu a oe cls dd pn hz hv
  · obtain ⟨F, M, ρ, Kd, s, re, h, ep⟩ := h
    refine ⟨F, M, ρ, _, s, re, h, ⟨ep.nx, ep.rt, ep.bk, ep.ct, fun c fs ρ1 M1 hq F1 H1 σ1 d st1 re1 rx => ?_⟩⟩
    obtain ⟨b, hm, hq⟩ := hq
    refine ⟨b, hem _ hm, fun hb1 a ha => ?_, fun hb0 => ?_⟩
    · subst hb1
      obtain ⟨dd, ws, rfl, h0, f1, hd, hks, rr⟩ := rx
      have st2 : Step X.K F M H F1 (updM M1 dd (.xd fs)) H1 := st1.adoptM h0 f1 (mo := .xd fs) hd ⟨ws, rfl, hks, rr⟩
      have q := (by simpa using hq : ∀ a dd, (∀ p mo, M1 p = some mo → (∀ gs, mo ≠ .xd gs) → p ≠ dd) → _) a dd (xd_off st1.m hd)
      refine ⟨F1, _, ρ1.set i (some (.ref a)), _, st2.sat, re1.set (.ref a), q, ⟨fun ρ' M' q F' H' σ' st r => ?_, fun d M' q F' H' v st r => ?_, fun ρ' M' q F' H' σ' st r => ?_, fun ρ' M' q F' H' σ' st r => ?_, fun _ _ _ _ q => absurd q id⟩⟩
      · exact ep.nx _ M' q F' H' _ (st2.trans st) r.forget
      · exact ep.rt d M' q F' H' v (st2.trans st) r
      · exact ep.bk _ M' q F' H' _ (st2.trans st) r.forget
      · exact ep.ct _ M' q F' H' _ (st2.trans st) r.forget
    · subst hb0
      exact ep.ex c fs ρ1 M1 (by simpa using hq) F1 H1 σ1 d st1 re1 rx
end
end Vp
namespace Vp
open PySem PySem.Spec PyProof.Rows L2

theorem kind_loc {X : Cx} {c : SC} (hsc : X.env.scope = c.sc) {x : Str} (h : c.sc.names.lookup x = some .local) : X.env.scope.names.lookup x = some .local := by rw [hsc]; exact h
/-- the frame of a def's own body -/
structure FrOk (X : Cx) : Prop where
  kind : X.env.scope.kind = .function
  stk : X.stack = X.env :: X.outer
  fr : X.env.frame = some X.env.locals
theorem XO.tr {X : Cx} {Γ : Gam} {W W' : WX} {c : SC} (h : XO X Γ W c) {pn : List (Addr × Obj)} {xe : Value → Shared → Prop} (tk : L2N.Takes (X.tr pn xe) W') (po : PassesOwn (model X.prog X.w) X.A X.env xe) (hh : c.xo = false) (h0 : c.hot = false) : XO (X.tr pn xe) Γ W' c where
  hN := h.hN
  nd := h.nd
  sc := h.sc
  fn := h.fn
  calm := h.calm
  fns := h.fns
  cs := h.cs
  mks := h.mks
  mts := h.mts
  csOk := h.csOk
  fls := h.fls
  bis := h.bis
  tk := tk
  po := po
  room := h.room
  tb := h.tb
  un := h.un
  hotn := h.hotn
  kms := h.kms
  xcs := h.xcs
  xcm := h.xcm
  pes := h.pes
  pesOk := h.pesOk
  exm := h.exm
  xfl := h.xfl
  kd := h.kd
  hfs := h.hfs
  hotc := fun _ e => by rw [h0] at e; cases e
  xh := fun e => by rw [hh] at e; cases e
theorem XO.suite {X : Cx} {Γ : Gam} {W : WX} {c : SC} (h : XO X Γ W c) {a dd : Addr} {oe : Obj} {cls : Value} {pn : List (Addr × Obj)} (hz : L2N.Zn cls (some dd) oe) (hv : ∃ vs, oe.data = .fields vs) : XO (X.suite a ((a, oe) :: pn)) { Γ with xh := some (a, cls, dd), fns := [], mks := [], mts := [], kms := [] } W0 c.suite where
  hN := h.hN
  nd := h.nd
  sc := h.sc
  fn := h.fn
  calm := fun e => nomatch e
  fns := fun _ => rfl
  cs := h.cs
  mks := fun _ => rfl
  mts := fun _ => rfl
  csOk := h.csOk
  fls := h.fls
  bis := h.bis
  tk := takes0N
  po := PassesOwn.never
  hfs := fun ne => let ⟨e, j, r, f⟩ := h.hfs ne; ⟨e, j, ⟨r.dp, r.un⟩, f⟩
  hotc := fun _ _ => let ⟨vs, hd⟩ := hv; ⟨(a, oe), ⟨rfl, vs, hd, hz.2.2 vs hd⟩, List.mem_cons_self⟩
  room := by
    obtain ⟨k, _, _, _, _, _, f⟩ := h.room
    exact ⟨k, fun e => (by cases e), fun z => absurd rfl z, fun z => absurd rfl z, fun z => absurd rfl z, fun z => absurd rfl z, f⟩
  tb := fun e => nomatch e
  un := h.un
  hotn := fun _ => ⟨rfl, rfl, rfl, rfl, rfl, rfl⟩
  kms := fun _ => rfl
  xcs := h.xcs
  xcm := h.xcm
  pes := h.pes
  pesOk := h.pesOk
  exm := h.exm
  xfl := h.xfl
  kd := h.kd
  xh := fun _ a' c' d' e => by cases e; exact ⟨X, oe, pn, rfl, hz, hv⟩
theorem xc_none {X : Cx} {k : Nat} {g : Xc} (h : XcIs X k g) : XcIs X k { g with n := 0, flds := fun _ => none } := by
  obtain ⟨j, f, fd, ps, hj, T, iC, tI, F1, hm, hb⟩ := h
  refine ⟨j, f, fd, ps, hj, T, iC, tI, F1.imp fun vs H Q E h => ?_, hm, hb⟩
  obtain ⟨F, M, ds, Q', X', s, r, hl, ⟨a, es, fs, _, _, hf, _⟩, _⟩ := h
  cases hf
mutual
theorem sS : ∀ (Γ : Gam) (t : S) (c : SC) (X : Cx) (W : WX) (s : Stmt), XO X Γ W c → FrOk X → isS c t s = true → PS X s (tS X.K W (vS Γ t))
  | Γ, .asg tg e, c, X, W, s, hx, hk, h => by
    unfold isS at h
    cases e1 : dAsg s with
    | none => simp only [e1] at h; cases h
    | some n =>
      obtain ⟨t, v⟩ := n
      simp only [e1] at h
      obtain ⟨p, rfl⟩ := dAsg_inv e1
      obtain ⟨h1, g2⟩ := and2 h
      obtain ⟨h2, g3⟩ := and2 g2
      obtain ⟨h3, h4⟩ := and2 g3
      exact ds_asg h1 h2 (isTg_star h3) (sE e c X W v hx h4) (sTg hx.hN hx.nd hx.sc hx.fn hx.calm tg t h3)
  | Γ, .setC i e, c, X, W, s, hx, hk, h => by
    unfold isS at h
    cases e1 : dSetC s with
    | none =>
      simp only [e1] at h
      cases e2 : dSetC2 s with
      | none => simp only [e2] at h; cases h
      | some n =>
        obtain ⟨y, x, t, it', ifs, t1, it1', ifs1, scope, b⟩ := n
        simp only [e2] at h
        cases e with
        | comp2 m elt tg it cond tg1 it1 cond1 =>
          simp only at h
          obtain ⟨h0, g1⟩ := and2 h
          subst h0
          obtain ⟨py, p, q, rfl, hl, hany⟩ := dSetC2_inv e2
          obtain ⟨h1, g2⟩ := and2 g1
          obtain ⟨h2, g3⟩ := and2 g2
          obtain ⟨h3, g4⟩ := and2 g3
          obtain ⟨h4, g4b⟩ := and2 g4
          obtain ⟨h4b, g5⟩ := and2 g4b
          obtain ⟨h5, g6⟩ := and2 g5
          obtain ⟨h6, g7⟩ := and2 g6
          obtain ⟨h7, g8⟩ := and2 g7
          obtain ⟨h8, g9⟩ := and2 g8
          obtain ⟨h9, g10⟩ := and2 g9
          obtain ⟨h10, g11⟩ := and2 g10
          obtain ⟨h11, g12⟩ := and2 g11
          obtain ⟨h12, h13⟩ := and2 g12
          have nd : X.N.Nodup := by rw [hx.hN]; exact hx.nd
          have ok : BlkOk X.N X.env.scope scope (ownOf c.N (slotsT tg ++ slotsT tg1)) := by rw [hx.hN, hx.sc]; exact blkOk_by h6
          have ho := of_decide_eq_true h7
          have pi := sI it c X W t it' hx h5
          have hg : ∀ (s : Shared) (H : Hp) (C : Addr) (cl : List (Str × Addr)) (fp : List Addr), PG (X.blk s H scope (compEnvC scope cl C X.env) fp) t (tG X.K tg) := fun s H C cl fp =>
            let y := hx.blk scope s H C cl fp
            sTg y.hN y.nd y.sc y.fn y.calm tg t h8
          have ht : ∀ (s : Shared) (H : Hp) (C : Addr) (cl : List (Str × Addr)) (fp : List Addr), PTs (X.blk s H scope (compEnvC scope cl C X.env) fp) ifs (tT X.K W0 (vTo Γ cond)) := fun s H C cl fp =>
            sTo cond (c.blk scope) _ W0 ifs (hx.blk scope s H C cl fp) h9
          have pi1 : ∀ (s : Shared) (H : Hp) (C : Addr) (cl : List (Str × Addr)) (fp : List Addr), PI (X.blk s H scope (compEnvC scope cl C X.env) fp) t1 it1' (tI X.K W0 (vI Γ it1)) := fun s H C cl fp =>
            sI it1 (c.blk scope) _ W0 t1 it1' (hx.blk scope s H C cl fp) h10
          have hg1 : ∀ (s : Shared) (H : Hp) (C : Addr) (cl : List (Str × Addr)) (fp : List Addr), PG (X.blk s H scope (compEnvC scope cl C X.env) fp) t1 (tG X.K tg1) := fun s H C cl fp =>
            let y := hx.blk scope s H C cl fp
            sTg y.hN y.nd y.sc y.fn y.calm tg1 t1 h11
          have ht1 : ∀ (s : Shared) (H : Hp) (C : Addr) (cl : List (Str × Addr)) (fp : List Addr), PTs (X.blk s H scope (compEnvC scope cl C X.env) fp) ifs1 (tT X.K W0 (vTo Γ cond1)) := fun s H C cl fp =>
            sTo cond1 (c.blk scope) _ W0 ifs1 (hx.blk scope s H C cl fp) h12
          have he : ∀ (s : Shared) (H : Hp) (C : Addr) (cl : List (Str × Addr)) (fp : List Addr), PE (X.blk s H scope (compEnvC scope cl C X.env) fp) x (tE X.K W0 (vE Γ elt)) := fun s H C cl fp =>
            sE elt (c.blk scope) _ W0 x (hx.blk scope s H C cl fp) h13
          have hy : X.N[i]? = some y := by rw [hx.hN]; exact of_decide_eq_true h1
          have hyl : X.env.scope.names.lookup y = some .local := kind_loc hx.sc (of_decide_eq_true h2)
          exact ds_setC (ps_setLc2 (i := i) (vs1 := slotsT tg1) (hx.calm h3) nd hy hyl (sw_true hk.kind hyl hl hany) pi ok (fun j hj => by rw [ho]; exact List.mem_append_right _ hj) hg ht pi1 hg1 ht1 he (noSet_fold h4) (fun env => noSet_fold h4b)) (de_comp2 ho)
        | _ => cases h
    | some n =>
      obtain ⟨y, x, t, it', ifs, scope, b⟩ := n
      simp only [e1] at h
      cases e with
      | comp m elt tg it cond =>
        simp only at h
        obtain ⟨h0, g1⟩ := and2 h
        subst h0
        obtain ⟨py, p, q, rfl, hl, hany⟩ := dSetC_inv e1
        obtain ⟨h1, g2⟩ := and2 g1
        obtain ⟨h2, g3⟩ := and2 g2
        obtain ⟨h3, g4⟩ := and2 g3
        obtain ⟨h4, g5⟩ := and2 g4
        obtain ⟨h5, g6⟩ := and2 g5
        obtain ⟨h6, g7⟩ := and2 g6
        obtain ⟨h7, g8⟩ := and2 g7
        obtain ⟨h8, g9⟩ := and2 g8
        obtain ⟨h9, h10⟩ := and2 g9
        have nd : X.N.Nodup := by rw [hx.hN]; exact hx.nd
        have ok : BlkOk X.N X.env.scope scope (ownOf c.N (slotsT tg)) := by rw [hx.hN, hx.sc]; exact blkOk_by h6
        have pi := sI it c X W t it' hx h5
        have hg : ∀ (s : Shared) (H : Hp) (C : Addr) (cl : List (Str × Addr)) (fp : List Addr), PG (X.blk s H scope (compEnvC scope cl C X.env) fp) t (tG X.K tg) := fun s H C cl fp =>
          let y := hx.blk scope s H C cl fp
          sTg y.hN y.nd y.sc y.fn y.calm tg t h8
        have ht : ∀ (s : Shared) (H : Hp) (C : Addr) (cl : List (Str × Addr)) (fp : List Addr), PTs (X.blk s H scope (compEnvC scope cl C X.env) fp) ifs (tT X.K W0 (vTo Γ cond)) := fun s H C cl fp =>
          sTo cond (c.blk scope) _ W0 ifs (hx.blk scope s H C cl fp) h9
        have he : ∀ (s : Shared) (H : Hp) (C : Addr) (cl : List (Str × Addr)) (fp : List Addr), PE (X.blk s H scope (compEnvC scope cl C X.env) fp) x (tE X.K W0 (vE Γ elt)) := fun s H C cl fp =>
          sE elt (c.blk scope) _ W0 x (hx.blk scope s H C cl fp) h10
        have hy : X.N[i]? = some y := by rw [hx.hN]; exact of_decide_eq_true h1
        have hyl : X.env.scope.names.lookup y = some .local := kind_loc hx.sc (of_decide_eq_true h2)
        exact ds_setC (ps_setLc (i := i) (hx.calm h3) nd hy hyl (sw_true hk.kind hyl hl hany) pi ok hg ht he (noSet_fold h4)) (de_comp (pos := p) (hx.calm h3) nd pi ok (of_decide_eq_true h7) hg ht he)
      | _ => cases h
  | Γ, .aug i op e, c, X, W, s, hx, hk, h => by
    unfold isS at h
    cases e1 : dAug s with
    | none => simp only [e1] at h; cases h
    | some n =>
      obtain ⟨x, o, v⟩ := n
      simp only [e1] at h
      obtain ⟨q, p, rfl⟩ := dAug_inv e1
      obtain ⟨h1, g2⟩ := and2 h
      obtain ⟨h2, g3⟩ := and2 g2
      obtain ⟨h3, g4⟩ := and2 g3
      obtain ⟨h4, h5⟩ := and2 g4
      obtain rfl := of_decide_eq_true h1
      obtain ⟨l, f⟩ := locB_ok h4
      exact ds_aug h2 (by rw [hx.hN]; exact hx.nd) (by rw [hx.hN]; exact of_decide_eq_true h3) (by rw [hx.sc]; exact l) (f.imp (hx.fn x) fun z => by rw [hx.sc]; exact z) (sE e c X W v hx h5)
  | Γ, .ret e, c, X, W, s, hx, hk, h => by
    unfold isS at h
    split at h
    · rename_i v e1
      obtain ⟨p, rfl⟩ := dRet_inv e1
      exact ds_ret (sE e c X W v hx h)
    · cases h
  | Γ, .retN, c, X, W, s, hx, hk, h => by
    unfold isS at h
    split at h
    · rename_i e1
      obtain ⟨p, rfl⟩ := dRet_inv e1
      exact ds_retN
    · cases h
  | Γ, .ifs t a b, c, X, W, s, hx, hk, h => by
    unfold isS at h
    cases e1 : dIfS s with
    | none => simp only [e1] at h; cases h
    | some n =>
      obtain ⟨u, x, y⟩ := n
      simp only [e1] at h
      obtain ⟨p, rfl⟩ := dIfS_inv e1
      obtain ⟨h1, g2⟩ := and2 h
      obtain ⟨h2, h3⟩ := and2 g2
      exact ds_if (sT t c X W u hx h1) (sSs Γ a c X W x hx hk h2) (sSs Γ b c X W y hx hk h3)
  | Γ, .for tg it body, c, X, W, s, hx, hk, h => by
    unfold isS at h
    cases e1 : dFor s with
    | none => simp only [e1] at h; cases h
    | some n =>
      obtain ⟨t, i, b⟩ := n
      simp only [e1] at h
      obtain ⟨p, rfl⟩ := dFor_inv e1
      obtain ⟨h1, g2⟩ := and2 h
      obtain ⟨h2, g3⟩ := and2 g2
      obtain ⟨h3, g4⟩ := and2 g3
      obtain ⟨h4, h5⟩ := and2 g4
      exact ds_for h2 hx.po (hx.calm h1) (sI it c X W t i hx h3) (sTg hx.hN hx.nd hx.sc hx.fn hx.calm tg t h4) (sSs Γ body c X W b hx hk h5)
  | Γ, .while t body, c, X, W, s, hx, hk, h => by
    unfold isS at h
    cases e1 : dWhile s with
    | none => simp only [e1] at h; cases h
    | some n =>
      obtain ⟨u, b⟩ := n
      simp only [e1] at h
      obtain ⟨p, rfl⟩ := dWhile_inv e1
      obtain ⟨h1, h2⟩ := and2 h
      exact ds_while hx.po (sT t c X W u hx h1) (sSs Γ body c X W b hx hk h2)
  | Γ, .expr e, c, X, W, s, hx, hk, h => by
    unfold isS at h
    cases e1 : dExpr s with
    | none => simp only [e1] at h; cases h
    | some v =>
      simp only [e1] at h
      obtain ⟨p, rfl⟩ := dExpr_inv e1
      obtain ⟨h1, h2⟩ := and2 h
      exact ds_expr h1 (sE e c X W v hx h2)
  | Γ, .app o e, c, X, W, s, hx, hk, h => by
    unfold isS at h
    cases e1 : dExpr s with
    | none => simp only [e1] at h; cases h
    | some v =>
      simp only [e1] at h
      obtain ⟨p, rfl⟩ := dExpr_inv e1
      cases e2 : dApp v with
      | none => simp only [e2] at h; cases h
      | some n =>
        obtain ⟨x, y⟩ := n
        simp only [e2] at h
        obtain ⟨ap, cp, rfl, hl⟩ := dApp_inv e2
        obtain ⟨h1, g2⟩ := and2 h
        obtain ⟨h2, g3⟩ := and2 g2
        obtain ⟨h3, h4⟩ := and2 g3
        exact ds_app h1 h2 hl (sE o c X W x hx h3) (sE e c X W y hx h4)
  | Γ, .setIx o i e, c, X, W, s, hx, hk, h => by
    unfold isS at h
    cases e1 : dAsg s with
    | none => simp only [e1] at h; cases h
    | some n =>
      obtain ⟨t, v⟩ := n
      simp only [e1] at h
      obtain ⟨p, rfl⟩ := dAsg_inv e1
      cases e2 : dSub t with
      | none => simp only [e2] at h; cases h
      | some n =>
        obtain ⟨x, y⟩ := n
        simp only [e2] at h
        obtain ⟨q, rfl⟩ := dSub_inv e2
        obtain ⟨h1, g2⟩ := and2 h
        obtain ⟨h2, g3⟩ := and2 g2
        obtain ⟨h3, g4⟩ := and2 g3
        obtain ⟨h4, h5⟩ := and2 g4
        exact ds_setIx (xo_unit1 hx) h1 h2 (sE e c X W v hx h3) (sE o c X W x hx h4) (sE i c X W y hx h5)
  | Γ, .ext o e, c, X, W, s, hx, hk, h => by
    unfold isS at h
    cases e1 : dExpr s with
    | none => simp only [e1] at h; cases h
    | some v =>
      simp only [e1] at h
      obtain ⟨p, rfl⟩ := dExpr_inv e1
      cases e2 : dExt v with
      | none => simp only [e2] at h; cases h
      | some n =>
        obtain ⟨x, y⟩ := n
        simp only [e2] at h
        obtain ⟨ap, cp, rfl, hl⟩ := dExt_inv e2
        obtain ⟨h1, g2⟩ := and2 h
        obtain ⟨h2, g3⟩ := and2 g2
        obtain ⟨h3, h4⟩ := and2 g3
        exact ds_ext h1 h2 hl (sE o c X W x hx h3) (sE e c X W y hx h4)
  | Γ, .setF o f e, c, X, W, s, hx, hk, h => by
    unfold isS at h
    cases e1 : dAsg s with
    | none => simp only [e1] at h; cases h
    | some n =>
      obtain ⟨t, v⟩ := n
      simp only [e1] at h
      obtain ⟨p, rfl⟩ := dAsg_inv e1
      cases e2 : dAttr t with
      | none => simp only [e2] at h; cases h
      | some n =>
        obtain ⟨x, g⟩ := n
        simp only [e2] at h
        obtain ⟨q, rfl⟩ := dAttr_inv e2
        obtain ⟨h1, g2⟩ := and2 h
        obtain ⟨h2, g3⟩ := and2 g2
        obtain ⟨h3, h4⟩ := and2 g3
        obtain rfl := of_decide_eq_true h2
        exact ds_setF hx.fls (sE e c X W v hx h4) (sE o c X W x hx h3)
  | Γ, .augF o f op e, c, X, W, s, hx, hk, h => by
    unfold isS at h
    cases e1 : dAugF s with
    | none => simp only [e1] at h; cases h
    | some n =>
      obtain ⟨x, g, q, v⟩ := n
      simp only [e1] at h
      obtain ⟨pq, p, rfl⟩ := dAugF_inv e1
      obtain ⟨h1, g2⟩ := and2 h
      obtain ⟨h2, g3⟩ := and2 g2
      obtain ⟨h3, g4⟩ := and2 g3
      obtain ⟨h4, h5⟩ := and2 g4
      obtain rfl := of_decide_eq_true h1
      obtain rfl := of_decide_eq_true h2
      exact ds_augF hx.fls h3 (sE e c X W v hx h5) (sE o c X W x hx h4)
  | Γ, .rvs o, c, X, W, s, hx, hk, h => by
    unfold isS at h
    cases e1 : dExpr s with
    | none => simp only [e1] at h; cases h
    | some v =>
      simp only [e1] at h
      obtain ⟨p, rfl⟩ := dExpr_inv e1
      cases e2 : dRvs v with
      | none => simp only [e2] at h; cases h
      | some x =>
        simp only [e2] at h
        obtain ⟨ap, cp, rfl, hl⟩ := dRvs_inv e2
        obtain ⟨h1, h2⟩ := and2 h
        exact ds_rvs h1 hl (sE o c X W x hx h2)
  | Γ, .setT o es e, c, X, W, s, hx, hk, h => by
    unfold isS at h
    cases e1 : dAsg s with
    | none => simp only [e1] at h; cases h
    | some n =>
      obtain ⟨t, v⟩ := n
      simp only [e1] at h
      obtain ⟨p, rfl⟩ := dAsg_inv e1
      cases e2 : dSub t with
      | none => simp only [e2] at h; cases h
      | some n =>
        obtain ⟨x, y⟩ := n
        simp only [e2] at h
        obtain ⟨q, rfl⟩ := dSub_inv e2
        cases e3 : dTup y with
        | none => simp only [e3] at h; cases h
        | some ys =>
          simp only [e3] at h
          obtain ⟨k, q2, rfl⟩ := dTup_inv e3
          obtain ⟨h1, g2⟩ := and2 h
          obtain ⟨h2, g3⟩ := and2 g2
          obtain ⟨h3, h4⟩ := and2 g3
          exact ds_setT (xo_unit1 hx) h1 (sE e c X W v hx h2) (sE o c X W x hx h3) (sEs es c X W ys hx h4).1
  | Γ, .pass, c, X, W, s, hx, hk, h => by
    unfold isS at h
    cases s <;> first | (cases h; done) | exact ds_pass
  | Γ, .brk, c, X, W, s, hx, hk, h => by
    unfold isS at h
    cases s <;> first | (cases h; done) | exact ds_brk
  | Γ, .cont, c, X, W, s, hx, hk, h => by
    unfold isS at h
    cases s <;> first | (cases h; done) | exact ds_cont
  | Γ, .never, c, X, W, s, hx, hk, h => PS.weak ps_never fun D σ H ⟨_, _, _, _, _, _, h, _⟩ => h
  | Γ, .rais k es, c, X, W, s, hx, hk, h => by
    unfold isS at h
    cases e1 : dRaise s with
    | none => simp only [e1] at h; cases h
    | some n =>
      obtain ⟨x, ys⟩ := n
      simp only [e1] at h
      obtain ⟨q, p, r, rfl⟩ := dRaise_inv e1
      obtain ⟨h1, g2⟩ := and2 h
      obtain ⟨h2, g3⟩ := and2 g2
      obtain ⟨h3, g4⟩ := and2 g3
      obtain ⟨h4, g5⟩ := and2 g4
      obtain ⟨h5, g6⟩ := and2 g5
      obtain ⟨h6, h7⟩ := and2 g6
      obtain ⟨y, t, rfl⟩ := ne_of_isEmpty h6
      obtain ⟨g, e2, e3⟩ := xc_at hx (of_decide_eq_true h3)
      obtain ⟨j, hr, _, _, _, _, hf⟩ := hx.room
      obtain ⟨pa, st⟩ := sEs es c X W (y :: t) hx h7
      by_cases hn : g.n ≤ 1000
      · refine PS.weak (ds_rais (hx.calm h1) hx.tk (hr (hot_of hx (.inr (.inr (.inr (.inr h1)))))) (hf g (mem_of e2)) e3 (glB_ok (by rw [hx.sc]; exact h4)) h5 hn pa st) fun D σ H h => ?_
        obtain ⟨F, M, ρ, Kd, s, re, h, ep⟩ := h
        refine ⟨F, M, ρ, Kd, s, re, ?_, ep⟩
        have h : vEs Γ es ρ M (fun ds M1 => ∃ g, Γ.xcs[k]? = some g ∧ g.n ≤ 1000 ∧ ds.length = g.n ∧ ∃ fs, g.flds ds = some fs ∧ Kd.ex (.ref g.cls) fs ρ M1) (fun c fs M1 => Kd.ex c fs ρ M1) := h
        have : (fun ds M1 => ∃ g, Γ.xcs[k]? = some g ∧ g.n ≤ 1000 ∧ ds.length = g.n ∧ ∃ fs, g.flds ds = some fs ∧ Kd.ex (.ref g.cls) fs ρ M1) = (fun ds M1 => ds.length = g.n ∧ ∃ fs, g.flds ds = some fs ∧ Kd.ex (.ref g.cls) fs ρ M1) := by
          funext ds M1
          rw [e2]
          simp [hn]
        rw [this] at h
        exact h
      · refine PS.weak (ds_rais (g := { g with n := 0, flds := fun _ => none }) (hx.calm h1) hx.tk (hr (hot_of hx (.inr (.inr (.inr (.inr h1)))))) ?_ e3 (glB_ok (by rw [hx.sc]; exact h4)) h5 (Nat.zero_le _) pa st) fun D σ H h => ?_
        · exact xc_none (hf g (mem_of e2))
        · obtain ⟨F, M, ρ, Kd, s, re, h, ep⟩ := h
          refine ⟨F, M, ρ, Kd, s, re, ?_, ep⟩
          have h : vEs Γ es ρ M (fun ds M1 => ∃ g, Γ.xcs[k]? = some g ∧ g.n ≤ 1000 ∧ ds.length = g.n ∧ ∃ fs, g.flds ds = some fs ∧ Kd.ex (.ref g.cls) fs ρ M1) (fun c fs M1 => Kd.ex c fs ρ M1) := h
          have : (fun ds M1 => ∃ g, Γ.xcs[k]? = some g ∧ g.n ≤ 1000 ∧ ds.length = g.n ∧ ∃ fs, g.flds ds = some fs ∧ Kd.ex (.ref g.cls) fs ρ M1) = (fun (ds : List Vp.D) (M1 : Mo) => ds.length = 0 ∧ ∃ fs, (none : Option (List (Str × Vp.D))) = some fs ∧ Kd.ex (.ref g.cls) fs ρ M1) := by
            funext ds M1
            rw [e2]
            simp [hn]
          rw [this] at h
          exact h
  | Γ, .tryAs body k i suite, c, X, W, s, hx, hk, h => by
    unfold isS at h
    cases e1 : dTry s with
    | none => simp only [e1] at h; cases h
    | some n =>
      obtain ⟨b, x, n, r⟩ := n
      simp only [e1] at h
      obtain ⟨np, pp, p, b0, r0, rfl, rfl⟩ := dTry_inv e1
      obtain ⟨h1, g2⟩ := and2 h
      obtain ⟨h2, g3⟩ := and2 g2
      obtain ⟨h3, g4⟩ := and2 g3
      obtain ⟨h4, g5⟩ := and2 g4
      obtain ⟨h5, g6⟩ := and2 g5
      obtain ⟨h6, g7⟩ := and2 g6
      obtain ⟨h7, h8⟩ := and2 g7
      obtain ⟨g, e2, e3⟩ := xc_at hx (of_decide_eq_true h1)
      have hh : c.xo = false := by simp at h2; exact h2.2
      have h0 : c.hot = false := by simp at h2; exact h2.1
      have hm : X.mg x = some (.ref g.cls) := by rw [← e3]; exact hx.xcm g (mem_of e2)
      refine PS.weak (ds_try (C := g.cls) (i := i) (wb := vSs Γ body) (wsu := fun a cls dd => vSs { Γ with xh := some (a, cls, dd), fns := [], mks := [], mts := [], kms := [] } suite) (exm := Γ.exm) hk.stk hk.fr (by rw [hx.hN]; exact hx.nd) (by rw [hx.hN]; exact of_decide_eq_true h5) (kind_loc hx.sc (of_decide_eq_true h6)) ⟨glB_ok (by rw [hx.sc]; exact h3), okNm1 h4, .inl hm⟩ hx.tk hx.exm
        (fun W' pn xe tk po => sSs Γ body c (X.tr pn xe) W' b (hx.tr tk po hh h0) ⟨hk.kind, hk.stk, hk.fr⟩ h7)
        (fun a oe cls dd pn hz hv => sSs { Γ with xh := some (a, cls, dd), fns := [], mks := [], mts := [], kms := [] } suite c.suite (X.suite a ((a, oe) :: pn)) W0 (b0 :: r0) (hx.suite hz hv) ⟨hk.kind, hk.stk, hk.fr⟩ h8)) fun D σ H h => ?_
      obtain ⟨F, M, ρ, Kd, s, re, h, ep⟩ := h
      refine ⟨F, M, ρ, Kd, s, re, ?_, ep⟩
      unfold vS at h
      have : (fun (c : Value) (fs : List (Str × Vp.D)) (ρ1 : Rho) (M1 : Mo) => ∃ g b, Γ.xcs[k]? = some g ∧ ((c, g.cls), b) ∈ Γ.exm ∧ if b = true then ∀ a dd, (∀ p mo, M1 p = some mo → (∀ gs, mo ≠ .xd gs) → p ≠ dd) → vSs { Γ with xh := some (a, c, dd), fns := [], mks := [], mts := [], kms := [] } suite { nx := fun ρ' M' => Kd.nx (ρ'.set i none) M', rt := Kd.rt, bk := fun ρ' M' => Kd.bk (ρ'.set i none) M', ct := fun ρ' M' => Kd.ct (ρ'.set i none) M', ex := fun _ _ _ _ => False } (ρ1.set i (some (.ref a))) (updM M1 dd (.xd fs)) else Kd.ex c fs ρ1 M1) =
          (fun c fs ρ1 M1 => ∃ b, ((c, g.cls), b) ∈ Γ.exm ∧ if b = true then ∀ a dd, (∀ p mo, M1 p = some mo → (∀ gs, mo ≠ .xd gs) → p ≠ dd) → vSs { Γ with xh := some (a, c, dd), fns := [], mks := [], mts := [], kms := [] } suite { nx := fun ρ' M' => Kd.nx (ρ'.set i none) M', rt := Kd.rt, bk := fun ρ' M' => Kd.bk (ρ'.set i none) M', ct := fun ρ' M' => Kd.ct (ρ'.set i none) M', ex := fun _ _ _ _ => False } (ρ1.set i (some (.ref a))) (updM M1 dd (.xd fs)) else Kd.ex c fs ρ1 M1) := by
        funext c fs ρ1 M1
        rw [e2]
        simp
      rw [this] at h
      exact h
  | Γ, .pei o js, c, X, W, s, hx, hk, h => by
    unfold isS at h
    cases e1 : dPei s with
    | none => simp only [e1] at h; cases h
    | some n =>
      obtain ⟨x, y, ys⟩ := n
      simp only [e1] at h
      obtain ⟨p1, p2, p3, p4, p5, a, b, r, rfl, rfl, hl⟩ := dPei_inv e1
      obtain ⟨h1, g2⟩ := and2 h
      obtain ⟨h2, g3⟩ := and2 g2
      obtain ⟨h3, g4⟩ := and2 g3
      obtain ⟨h4, g5⟩ := and2 g4
      obtain ⟨h5, h6⟩ := and2 g5
      have hp : PeIs X x := hx.pesOk x (by rw [← hx.pes]; exact of_decide_eq_true h1)
      exact ds_pei hx (fun e z he => sE e c X W z hx he) hp (glB_ok (by rw [hx.sc]; exact h2)) h3 h4 hl (sE o c X W y hx h5) h6 fun z hz => (hx.xfl z hz).2.2
  | Γ, .setX o f e, c, X, W, s, hx, hk, h => by
    unfold isS at h
    cases e1 : dAsg s with
    | none => simp only [e1] at h; cases h
    | some n =>
      obtain ⟨t, v⟩ := n
      simp only [e1] at h
      obtain ⟨p, rfl⟩ := dAsg_inv e1
      cases e2 : dAttr t with
      | none => simp only [e2] at h; cases h
      | some n =>
        obtain ⟨x, g⟩ := n
        simp only [e2] at h
        obtain ⟨q, rfl⟩ := dAttr_inv e2
        obtain ⟨h1, g2⟩ := and2 h
        obtain ⟨h2, g3⟩ := and2 g2
        obtain ⟨h3, h4⟩ := and2 g3
        obtain rfl := of_decide_eq_true h2
        exact ds_setX (fun y hy => (hx.xfl y hy).2) h1 (sE e c X W v hx h4) (sE o c X W x hx h3)
theorem sSs : ∀ (Γ : Gam) (t : Ss) (c : SC) (X : Cx) (W : WX) (sts : List Stmt), XO X Γ W c → FrOk X → isSs c t sts = true → PSs X sts (tS X.K W (vSs Γ t))
  | Γ, .nil, c, X, W, [], hx, hk, h => dss_nil
  | Γ, .nil, c, X, W, _ :: _, hx, hk, h => by unfold isSs at h; cases h
  | Γ, .cons s r, c, X, W, [], hx, hk, h => by unfold isSs at h; cases h
  | Γ, .cons s r, c, X, W, x :: xs, hx, hk, h => by
    unfold isSs at h
    obtain ⟨h1, h2⟩ := and2 h
    exact dss_cons (w1 := vS Γ s) (w2 := vSs Γ r) (sS Γ s c X W x hx hk h1) (sSs Γ r c X W xs hx hk h2)
  | Γ, .frz i r, c, X, W, sts, hx, hk, h => by
    unfold isSs at h
    exact dss_frz (w1 := vSs Γ r) (sSs Γ r c X W sts hx hk h)
  | Γ, .frzF i f r, c, X, W, sts, hx, hk, h => by
    unfold isSs at h
    exact dss_frzF (w1 := vSs Γ r) (sSs Γ r c X W sts hx hk h)
end

/-! ### a def -/
def startD (n : Nat) (ds : List D) : Rho := ds.map some ++ List.replicate (n - ds.length) none
theorem start_rep {K : PySem.W.Frag} {F : Hp} {N : List Str} {vs : List V} {ds : List D} (r : RepL K F vs ds) : RepE K F (L2.start N vs) (startD N.length ds) := by
  have hl := r.length
  refine ⟨by simp [L2.start, startD, hl], fun i d e => ?_⟩
  unfold startD at e
  unfold L2.start
  by_cases hi : i < ds.length
  · rw [List.getElem?_append_left (by simpa using hi), List.getElem?_map] at e
    cases e1 : ds[i]? with
    | none => rw [e1] at e; cases e
    | some d' =>
      rw [e1] at e; cases e
      obtain ⟨v, hv, rv⟩ := r.get e1
      exact ⟨v, by rw [List.getElem?_append_left (by simp; omega), List.getElem?_map, hv]; rfl, rv⟩
  · rw [List.getElem?_append_right (by simp; omega)] at e
    rw [List.getElem?_replicate] at e
    split at e <;> cases e
/-- what a def's body is to reach -/
def endsOf (Q : QE) (X : XQ) : EndsD where
  nx := fun _ M => ∃ M', Sub M' M ∧ Q .non M'
  rt := fun d M => ∃ M', Sub M' M ∧ Q d M'
  bk := fun _ _ => False
  ct := fun _ _ => False
  ex := fun c fs _ M => ∃ M', Sub M' M ∧ X c fs M'
/-- what the names at the top promise, wherever one stands -/
structure Fns (P : Program) (w : World) (K : PySem.W.Frag) (mg : Str → Option Value) (base : Heap) (k : Nat) (Γ : Gam) : Prop where
  fns : ∀ g ∈ Γ.fns, ∃ f fd ps, FnOk P w K mg base (L2N.CX P w) k f fd ps (spOf K g.n g.con) ∧ mg g.name = some (.ref f) ∧ PySem.W.keepIn K (.ref f) = true ∧ Binds K fd ps []
  cs : ∀ y ∈ Γ.cs, ∃ v u, mg y.1 = some u ∧ RelV v u ∧ ∀ F, Rep K F v y.2
  mks : ∀ g ∈ Γ.mks, ∃ j f fd ps, j + 1 ≤ k ∧ Mk K g.cls f ∧ FnOk P w K mg base (L2N.CX P w) j f fd ps (spOf K g.n g.con) ∧ mg g.name = some (.ref g.cls) ∧ Binds K fd ps []
  mts : ∀ g ∈ Γ.mts, ∃ f fd ps, Cls K g.cls ∧ Meth K g.cls g.name f ∧ FnOk P w K mg base (L2N.CX P w) k f fd ps (spOf K g.n g.con) ∧ Binds K fd ps []
  fls : ∀ y ∈ Γ.fls, Cls K y.1 ∧ NoAttr K y.1 y.2
  kms : ∀ g ∈ Γ.kms, ∃ j f fd ps gf gV, j + 1 ≤ k ∧ Mk K g.cls f ∧ FnOk P w K mg base (L2N.CX P w) j f fd ps (spOf K g.n g.con) ∧ mg g.name = some (.ref g.cls) ∧ KBn K fd ps 1 g.ks gf gV ∧
    ∀ F x zs ds, ds.length = g.ks.length → RepL K F zs ds → RepL K F (gV [.ref x] zs) (.ref x :: g.arr ds) ∧ (.ref x :: g.arr ds : List D).length = g.n
  xcs : ∀ g ∈ Γ.xcs, ∃ j f fd ps, j + 1 ≤ k ∧ OexC K g.cls ∧ PySem.W.findIn K (.ref g.cls) "__init__" = some (some (.ref f)) ∧ PySem.W.typeIn K (.ref f) = some (.type "function") ∧
    FnOk P w K mg base (L2N.CX P w) j f fd ps (spOf K (g.n + 1) (xcon g)) ∧ mg g.name = some (.ref g.cls) ∧ Binds K fd ps []
  pes : ∀ x ∈ Γ.pes, ∃ B mc, mg x = some (.ref B) ∧ PySem.W.specialIn K (.ref B) "__getattribute__" = some (some (.builtin "type.__getattribute__")) ∧ PySem.W.readsIn K B mc = true ∧ PySem.W.findCls K (.ref B) mc "__init__" = some (.val (.builtin "ValueError.__init__"))
  exm : ∀ y ∈ Γ.exm, PySem.W.exmOne K y.1.1 (.ref y.1.2) = some y.2
  xfl : ∀ y ∈ Γ.xfl, XfC K y.1 ∧ PySem.W.findIn K (.ref y.1) y.2 = some none ∧ OexC K y.1
  kd : ∀ y ∈ Γ.kd, ∃ es n, KDict K w y.1 es n ∧ ∀ z : Str, (PySem.W.nsIn K y.1 z = some none ∧ y.2.lookup z = none) ∨ ∃ u v d, PySem.W.nsIn K y.1 z = some (some u) ∧ y.2.lookup z = some d ∧ RelV v u ∧ ∀ F, Rep K F v d
  hfs : ∀ g ∈ Γ.hfs, ∃ f fd ps, L2H.FnH P w K mg base (L2N.CX P w) k f fd ps (spOf K g.n g.con) ∧ mg g.name = some (.ref f) ∧ PySem.W.keepIn K (.ref f) = true ∧ Binds K fd ps [] := by exact fun _ h => nomatch h
def mkSC (N : List Str) (sc : Scope) (Γ : Gam) (bis : List Str) : SC := { N := N, sc := sc, fnm := fun _ => true, calm := true, fns := Γ.fns.map (·.name), bis := bis, cs := Γ.cs.map (·.1), mks := Γ.mks.map (·.name), mts := Γ.mts.map (·.name), tb := Γ.tb.isSome, kms := Γ.kms.map fun g => (g.name, g.ks), xcs := Γ.xcs.map (·.name), pes := Γ.pes, hfs := Γ.hfs.map (·.name) }
/-- the same by names alone: closed, for decide; what Γ's part gives it is rfl -/
def scOf (N : List Str) (sc : Scope) (fns bis cs mks mts : List Str) (tb : Bool) (kms : List (Str × List Str)) (xcs pes : List Str) : SC := { N := N, sc := sc, fnm := fun _ => true, calm := true, fns := fns, bis := bis, cs := cs, mks := mks, mts := mts, tb := tb, kms := kms, xcs := xcs, pes := pes }
/-! ### a def whose code makes generators: its own code object at c, the table at P; its name x, its qualname qual (a method's is another) -/
structure FunC (K : PySem.W.Frag) (x qual : Str) (st : Stmt) (f : Addr) (fd : FuncData) (cdv : Value) : Prop where
  ex : ∃ (oc : Value) (od : Option Addr) (dV kV doc pm : Value) (an : Option Addr) (ct : Value) (osl : Array (Option Value)),
    fd = PySem.W.fnOf x qual (defArgs st) (defBody st) (defScope st) dV kV doc pm an cdv ct ∧ K.lookup f = some ⟨oc, od, .func fd, osl⟩ ∧ PySem.W.codeIn K cdv qual = true
section
variable {P : Program} {w : World} {K : PySem.W.Frag} {mg : Str → Option Value} {base : Heap}
/-- THE RULE for a def: its text is the small language's body b, and b does what the promise says (a table: it makes generators) -/
theorem def_okC {x qual : Str} {st : Stmt} {f : Addr} {fd : FuncData} {cdv : Value} {N ps : List Str} {k : Nat} {Γ : Gam} {bis : List Str} {b : Ss} {con : Con} {n : Nat} {c0 : SC} (F : FunC K x qual st f fd cdv) (sc : FnScope N ps (defScope st)) (hn : n = ps.length)
    (ht : ∀ T, Γ.tb = some T → (∃ c, cdv = .ref c ∧ GxR.TabB base mg c T) ∧ ∃ j, k = j + 1 ∧ Fns P w K mg base j Γ)
    (hc0 : mkSC N (defScope st) Γ bis = c0) (hb : isSs c0 b (defBody st) = true) (hG : Fns P w K mg base k Γ) (hbi : ∀ x ∈ bis, mg x = none)
    (hc : ∀ ds M Q X, ds.length = n → con ds M Q X → vSs Γ b (endsOf Q X) (startD N.length ds) M) : FnOk P w K mg base (L2N.CX P w) (k + 1) f fd ps (spOf K n con) := by
  subst hc0
  obtain ⟨oc, od, dV, kV, doc, pm, an, ct, osl, rfl, lk, hcd⟩ := F.ex
  refine fn_of lk hcd sc (fun vs H Q E h => ?_) fun A outer s H vs Q E hr h => ?_
  · obtain ⟨F, M, ds, Q', X', s, r, hl, _⟩ := h
    rw [r.length, hl, hn]
  · obtain ⟨F0, M, ds, Q', X', sat, r, hl, hcon, pv, px⟩ := h
    have xo : XO (cxOf (L2N.CX P w) P w K mg base N qual (defScope st) f cdv A outer s H E) Γ (fun cls d _ H => E cls d H) (mkSC N (defScope st) Γ bis) := {
      hN := rfl
      nd := sc.nd
      sc := rfl
      fn := fun _ _ => rfl
      calm := fun _ => rfl
      fns := fun _ => rfl
      cs := rfl
      mks := fun _ => rfl
      mts := fun _ => rfl
      csOk := hG.cs
      fls := hG.fls
      bis := hbi
      tk := L2N.takes_of rfl rfl rfl rfl
      po := passes_of rfl
      room := ⟨k, fun _ => hr, fun _ => hG.fns, fun _ => hG.mks, fun _ => hG.mts, fun _ => hG.kms, hG.xcs⟩
      un := by have := hr.un; show (A.deeper _).units + 200 < cLine; omega
      hotn := fun e => nomatch e
      kms := fun _ => rfl
      xcs := rfl
      xcm := fun g hg => let ⟨_, _, _, _, _, _, _, _, _, hm, _⟩ := hG.xcs g hg; hm
      pes := rfl
      pesOk := hG.pes
      exm := hG.exm
      xfl := hG.xfl
      kd := hG.kd
      hfs := fun _ => ⟨rfl, k, L2H.roomH_of hr, hG.hfs⟩
      hotc := fun _ e => nomatch e
      xh := fun e => nomatch e
      tb := fun e => by
        obtain ⟨T, hT⟩ := Option.isSome_iff_exists.mp (show Γ.tb.isSome = true from e)
        obtain ⟨⟨c, hcd, TB⟩, j, hk, G⟩ := ht T hT
        subst hk
        exact ⟨⟨T, c, hT, hcd, TB⟩, j, hr, G.fns, G.mks, G.mts, G.kms, G.xcs⟩ }
    refine ⟨_, sSs Γ b _ _ _ (defBody st) xo ⟨sc.kind, rfl, rfl⟩ hb, ?_⟩
    refine ⟨F0, M, startD N.length ds, _, sat, start_rep r, hc ds M Q' X' hl hcon, ⟨fun ρ' M' q F' H' σ' st r => ?_, fun d M' q F' H' v st r => ?_, fun ρ' M' q => absurd q id, fun ρ' M' q => absurd q id, fun c fs ρ' M' q F' H' σ' d st r rx => ?_⟩⟩
    · obtain ⟨M2, sub, q⟩ := q
      exact pv .non M2 q F' H' .non (st.forget sub) .non
    · obtain ⟨M2, sub, q⟩ := q
      exact pv d M2 q F' H' v (st.forget sub) r
    · obtain ⟨M2, sub, q⟩ := q
      exact px c fs M2 q F' H' d (st.forget sub) rx
/-- .. for a def that may be called while an exception is handled -/
theorem def_okH {x qual : Str} {st : Stmt} {f : Addr} {fd : FuncData} {cdv : Value} {N ps : List Str} {k : Nat} {Γ : Gam} {bis : List Str} {b : Ss} {con : Con} {n : Nat} {c0 : SC} (F : FunC K x qual st f fd cdv) (sc : FnScope N ps (defScope st)) (hn : n = ps.length)
    (hΓ : Γ.fns = [] ∧ Γ.mks = [] ∧ Γ.mts = [] ∧ Γ.kms = [] ∧ Γ.tb = none) (hc0 : { mkSC N (defScope st) Γ bis with calm := false, hot := true } = c0) (hb : isSs c0 b (defBody st) = true) (hG : Fns P w K mg base k Γ) (hbi : ∀ x ∈ bis, mg x = none)
    (hc : ∀ ds M Q X, ds.length = n → con ds M Q X → vSs Γ b (endsOf Q X) (startD N.length ds) M) : L2H.FnH P w K mg base (L2N.CX P w) (k + 1) f fd ps (spOf K n con) := by
  subst hc0
  obtain ⟨g1, g2, g3, g4, g5⟩ := hΓ
  obtain ⟨oc, od, dV, kV, doc, pm, an, ct, osl, rfl, lk, hcd⟩ := F.ex
  refine L2H.fn_ofH lk hcd sc (fun vs H Q E h => ?_) fun A outer s H vs Q E p hot hr h => ?_
  · obtain ⟨F, M, ds, Q', X', s, r, hl, _⟩ := h
    rw [r.length, hl, hn]
  · obtain ⟨F0, M, ds, Q', X', sat, r, hl, hcon, pv, px⟩ := h
    have xo : XO (L2H.cxH (L2N.CX P w) P w K mg base N qual (defScope st) f cdv A outer s H E p) Γ (fun cls d _ H => E cls d H) { mkSC N (defScope st) Γ bis with calm := false, hot := true } := {
      hN := rfl
      nd := sc.nd
      sc := rfl
      fn := fun _ _ => rfl
      calm := fun e => nomatch e
      fns := fun _ => rfl
      cs := rfl
      mks := fun _ => rfl
      mts := fun _ => rfl
      csOk := hG.cs
      fls := hG.fls
      bis := hbi
      tk := L2N.takes_of rfl rfl rfl rfl
      po := passes_of rfl
      room := ⟨k, fun e => absurd (show true = false from e) Bool.noConfusion, fun _ => hG.fns, fun _ => hG.mks, fun _ => hG.mts, fun _ => hG.kms, hG.xcs⟩
      un := by have := hr.un; show (A.deeper _).units + 200 < cLine; omega
      hotn := fun _ => ⟨by show Γ.fns.map _ = []; rw [g1]; rfl, by show Γ.mks.map _ = []; rw [g2]; rfl, by show Γ.mts.map _ = []; rw [g3]; rfl, by show Γ.kms.map _ = []; rw [g4]; rfl, rfl, by show Γ.tb.isSome = false; rw [g5]; rfl⟩
      kms := fun _ => rfl
      xcs := rfl
      xcm := fun g hg => let ⟨_, _, _, _, _, _, _, _, _, hm, _⟩ := hG.xcs g hg; hm
      pes := rfl
      pesOk := hG.pes
      exm := hG.exm
      xfl := hG.xfl
      kd := hG.kd
      hfs := fun _ => ⟨rfl, k, hr, hG.hfs⟩
      hotc := fun _ _ => ⟨p, ⟨hot.1, hot.2⟩, List.mem_cons_self⟩
      xh := fun e => nomatch e
      tb := fun e => by
        have e : Γ.tb.isSome = true := e
        rw [g5] at e; cases e }
    refine ⟨_, sSs Γ b _ _ _ (defBody st) xo ⟨sc.kind, rfl, rfl⟩ hb, ?_⟩
    refine ⟨F0, M, startD N.length ds, _, sat, start_rep r, hc ds M Q' X' hl hcon, ⟨fun ρ' M' q F' H' σ' st r => ?_, fun d M' q F' H' v st r => ?_, fun ρ' M' q => absurd q id, fun ρ' M' q => absurd q id, fun c fs ρ' M' q F' H' σ' d st r rx => ?_⟩⟩
    · obtain ⟨M2, sub, q⟩ := q
      exact pv .non M2 q F' H' .non (st.forget sub) .non
    · obtain ⟨M2, sub, q⟩ := q
      exact pv d M2 q F' H' v (st.forget sub) r
    · obtain ⟨M2, sub, q⟩ := q
      exact px c fs M2 q F' H' d (st.forget sub) rx
end
end Vp
namespace Vp
open PySem PySem.Spec PyProof.Rows L2

theorem atI0 {α : Type} {x : α} {xs : List α} : atI (x :: xs) 0 = some x := atI_nat (xs := x :: xs) (j := 0) rfl
theorem atI1 {α : Type} {x y : α} {xs : List α} : atI (x :: y :: xs) 1 = some y := atI_nat (xs := x :: y :: xs) (j := 1) rfl
theorem atI2 {α : Type} {x y z : α} {xs : List α} : atI (x :: y :: z :: xs) 2 = some z := atI_nat (xs := x :: y :: z :: xs) (j := 2) rfl
theorem atI3 {α : Type} {x y z u : α} {xs : List α} : atI (x :: y :: z :: u :: xs) 3 = some u := atI_nat (xs := x :: y :: z :: u :: xs) (j := 3) rfl
theorem ixN0 {n : Nat} : ixN (n + 1) 0 = some 0 := by simp [ixN]
theorem ixN1 {n : Nat} : ixN (n + 2) 1 = some 1 := by simp [ixN]; omega
theorem ixN2 {n : Nat} : ixN (n + 3) 2 = some 2 := by simp [ixN]; omega
theorem ifB {p : Prop} [Decidable p] {A B : Prop} : (if decide p = true then A else B) = (if p then A else B) := by simp
theorem ifNB {c : Bool} {A B : Prop} : (if (!c) = true then A else B) = (if c = true then B else A) := by cases c <;> simp
theorem exIf {α : Type} {c : Prop} [Decidable c] {x : α} {P : α → Prop} : (∃ d, (if c then some x else none) = some d ∧ P d) ↔ c ∧ P x := by
  by_cases h : c
  · simp [h]
  · simp [h]
theorem iteI {c : Prop} [Decidable c] {A B : Prop} (h1 : c → A) (h2 : ¬c → B) : if c then A else B := by
  by_cases h : c
  · rw [if_pos h]; exact h1 h
  · rw [if_neg h]; exact h2 h
end Vp
namespace Vp
open PySem PySem.Spec PyProof.Rows L2

/-! ### the stream of numbers that every law draws from -/
def b_law_stream : Ss := .cons (.ret (.lst true (.cons (.bi (.list false) (.cons (.var 0) .nil)) (.cons (.cint 0) (.cons (.cint 0) .nil))))) .nil
def b_law_next_1 : Ss := .cons (.asg (.nm 3) (.bi .abs (.cons (.ix (.ix (.var 0) (.cint 0)) (.var 2)) .nil))) .nil
def b_law_next_2 : Ss := .cons (.asg (.nm 3) (.bin .Add (.bin .Mult (.bin .Mod (.bi .int (.cons (.bin .Add (.bin .Mult (.var 3) (.cint 16807)) (.cint 13)) .nil)) (.cint 2147483647)) (.cint 65537)) (.var 3))) .nil
def b_law_next_3 : Ss := .cons (.asg (.nm 3) (.bin .Mod (.bi .int (.cons (.bin .Add (.bin .Add (.bin .Mult (.var 3) (.cint 48271)) (.bin .Mult (.var 2) (.cint 69621))) (.cint 11)) .nil)) (.cint 2147483647))) b_law_next_2
def b_law_next_4 : Ss := .cons (.setIx (.var 0) (.cint 2) (.bin .Add (.var 2) (.cint 1))) .nil
def b_law_next_5 : Ss := .cons (.setIx (.var 0) (.cint 1) (.var 3)) b_law_next_4
def b_law_next_6 : Ss := .cons (.ifs (.cmp .Lt (.var 3) (.bin .Pow (.cint 10) (.cint 18))) b_law_next_3 .nil) b_law_next_5
def b_law_next_7 : Ss := .cons (.ifs (.cmp .Lt (.var 2) (.bi .len (.cons (.ix (.var 0) (.cint 0)) .nil))) b_law_next_1 .nil) b_law_next_6
def b_law_next_8 : Ss := .cons (.asg (.nm 3) (.bin .Add (.cint 7) (.var 2))) b_law_next_7
def b_law_next_9 : Ss := .cons (.asg (.nm 2) (.ix (.var 0) (.cint 2))) b_law_next_8
def b_law_next_10 : Ss := .cons (.ret (.var 4)) .nil
def b_law_next_11 : Ss := .cons (.setIx (.var 0) (.cint 1) (.bin .FloorDiv (.ix (.var 0) (.cint 1)) (.var 1))) b_law_next_10
def b_law_next_12 : Ss := .cons (.asg (.nm 4) (.bin .Mod (.bi .int (.cons (.ix (.var 0) (.cint 1)) .nil)) (.var 1))) b_law_next_11
def b_law_next : Ss := .cons (.ifs (.cmp .Eq (.ix (.var 0) (.cint 1)) (.cint 0)) b_law_next_9 .nil) b_law_next_12
def Stream (M : Mo) (p : Addr) (ns : List Int) : Prop := ∃ c k : Int, 0 ≤ c ∧ 0 ≤ k ∧ M p = some (.lst [.lst (ns.map .int), .int c, .int k])
/-- what was known still stands, but for the stream, which goes on -/
def Mv (M M' : Mo) (p : Addr) (ns : List Int) : Prop := (∀ a, a ≠ p → ∀ o, M a = some o → M' a = some o) ∧ Stream M' p ns
theorem Mv.refl {M : Mo} {p : Addr} {ns : List Int} (h : Stream M p ns) : Mv M M p ns := ⟨fun _ _ _ e => e, h⟩
theorem Mv.trans {M M1 M2 : Mo} {p : Addr} {ns : List Int} (a : Mv M M1 p ns) (b : Mv M1 M2 p ns) : Mv M M2 p ns := ⟨fun x hx o e => b.1 x hx o (a.1 x hx o e), b.2⟩
theorem Stream.ne {M : Mo} {p q : Addr} {ns : List Int} (h : Stream M p ns) (e : M q = none) : q ≠ p := fun z => by
  obtain ⟨c, k, _, _, h⟩ := h
  subst z; rw [e] at h; cases h
/-- a list of this def's own, beside the stream -/
structure Loc (M0 M : Mo) (p : Addr) (ns : List Int) (q : Addr) (ds : List D) : Prop where
  mv : Mv M0 M p ns
  fr : M0 q = none
  ne : q ≠ p
  at' : M q = some (.lst ds)
theorem Loc.new {M0 M : Mo} {p : Addr} {ns : List Int} {q : Addr} {ds : List D} (m : Mv M0 M p ns) (e : M q = none) : Loc M0 (updM M q (.lst ds)) p ns q ds := by
  have hne := m.2.ne e
  obtain ⟨c, k, c0, k0, hs⟩ := m.2
  have f : M0 q = none := by
    cases h : M0 q with
    | none => rfl
    | some o => rw [m.1 q hne o h] at e; cases e
  refine ⟨⟨fun a ha o h => ?_, c, k, c0, k0, by rw [updM_ne hne.symm]; exact hs⟩, f, hne, updM_same⟩
  rw [updM_ne (fun z => by subst z; rw [f] at h; cases h)]
  exact m.1 a ha o h
theorem Loc.set {M0 M : Mo} {p : Addr} {ns : List Int} {q : Addr} {ds es : List D} (l : Loc M0 M p ns q ds) : Loc M0 (updM M q (.lst es)) p ns q es := by
  obtain ⟨c, k, c0, k0, hs⟩ := l.mv.2
  refine ⟨⟨fun a ha o h => ?_, c, k, c0, k0, by rw [updM_ne l.ne.symm]; exact hs⟩, l.fr, l.ne, updM_same⟩
  rw [updM_ne (fun z => by subst z; rw [l.fr] at h; cases h)]
  exact l.mv.1 a ha o h
theorem Loc.draw {M0 M M1 : Mo} {p : Addr} {ns : List Int} {q : Addr} {ds : List D} (l : Loc M0 M p ns q ds) (m : Mv M M1 p ns) : Loc M0 M1 p ns q ds :=
  ⟨l.mv.trans m, l.fr, l.ne, m.1 q l.ne _ l.at'⟩
/-- another list of its own, made or changed later -/
theorem Loc.other {M0 M M1 : Mo} {p : Addr} {ns : List Int} {q q' : Addr} {ds es : List D} (l : Loc M0 M p ns q ds) (h : Loc M M1 p ns q' es) : Loc M0 M1 p ns q ds := l.draw h.mv
theorem Loc.frz {M0 M : Mo} {p : Addr} {ns : List Int} {q : Addr} {ds : List D} (l : Loc M0 M p ns q ds) : Mv M0 (delM M q) p ns := by
  obtain ⟨c, k, c0, k0, hs⟩ := l.mv.2
  refine ⟨fun a ha o h => ?_, c, k, c0, k0, by rw [delM_ne l.ne.symm]; exact hs⟩
  rw [delM_ne (fun z => by subst z; rw [l.fr] at h; cases h)]
  exact l.mv.1 a ha o h
/-- a list of its own in a def that draws nothing -/
structure Own (M0 M : Mo) (q : Addr) (ds : List D) : Prop where
  mv : Sub M0 M
  fr : M0 q = none
  at' : M q = some (.lst ds)
theorem Sub.none {M0 M : Mo} (s : Sub M0 M) {q : Addr} (e : M q = none) : M0 q = Option.none := by
  cases h : M0 q with
  | none => rfl
  | some o => rw [s q o h] at e; cases e
theorem Own.new {M0 M : Mo} {q : Addr} {ds : List D} (m : Sub M0 M) (e : M q = none) : Own M0 (updM M q (.lst ds)) q ds := ⟨m.new (m.none e), m.none e, updM_same⟩
theorem Own.set {M0 M : Mo} {q : Addr} {ds es : List D} (l : Own M0 M q ds) : Own M0 (updM M q (.lst es)) q es := ⟨l.mv.new l.fr, l.fr, updM_same⟩
theorem Own.sub {M0 M M1 : Mo} {q : Addr} {ds : List D} (l : Own M0 M q ds) (m : Sub M M1) : Own M0 M1 q ds := ⟨l.mv.trans m, l.fr, m q _ l.at'⟩
theorem Own.frz {M0 M : Mo} {q : Addr} {ds : List D} (l : Own M0 M q ds) : Sub M0 (delM M q) := l.mv.del l.fr

def C_stream : Con := fun ds M Q _ => ∃ ns : List Int, ds = [.lst (ns.map .int)] ∧ ∀ p M', Mv M M' p ns → Q (.ref p) M'
theorem w_stream (ds : List D) (M : Mo) (Q : QE) (X : XQ) (h : C_stream ds M Q X) : vSs g0 b_law_stream (endsOf Q X) (startD 1 ds) M := by
  obtain ⟨ns, rfl, q⟩ := h
  simp (maxSteps := 400000) only [vSs, vS, vE, vEs, vT, vTo, vEo, vI, setV, slV, seqL', keyD, startD, endsOf, List.map_cons, List.map_nil, List.length_cons, List.length_nil, List.replicate, List.cons_append, List.nil_append, Nat.reduceAdd, Nat.reduceSub, Nat.reduceLeDiff, List.getElem?_cons_zero, List.getElem?_cons_succ, Option.some.injEq, exists_eq_left', exists_eq_left, exists_eq', exists_eq, bindT, bindTs, List.set_cons_zero, List.set_cons_succ, ixV, atI0, atI1, atI2, atI3, cmpV, cmpEq, cmpIs, fOp, fCmp, binV, augV, Bi.wp, Bi.val, truD, wipeR, slotsT, slotsTs, Int.cast_ofNat_Int, seqV, seqF, seqL, Option.map_some, Option.map_none, D.ref.injEq, D.int.injEq, D.bl.injEq, MO.lst.injEq, exists_and_left, exists_and_right, updM_same, updM_updM, viewR, viewD, viewDs, flatD, ixN0, ixN1, ixN2, ifB, ifNB, Bool.not_true, Bool.not_false, Bool.false_eq_true, Bool.true_eq_false, if_true, if_false, ite_true, ite_false, true_and, and_true, or_true, true_or, or_false, false_or, false_and, and_false, String.reduceEq, eq_self, decide_true, decide_false, exIf, ne_eq, not_false_eq_true, Nat.zero_le, b_law_stream]
  refine fun p e => ⟨_, Sub.refl _, q _ _ ⟨fun a ha o h => ?_, 0, 0, by omega, by omega, updM_same⟩⟩
  rw [updM_ne ha]; exact h
def C_next : Con := fun ds M Q _ => ∃ p m ns, ds = [.ref p, .int m] ∧ 0 < m ∧ m < 1073741824 ∧ Stream M p ns ∧ ∀ r M', 0 ≤ r → r < m → Mv M M' p ns → Q (.int r) M'
theorem use_next {M : Mo} {Q : QE} {X : XQ} {p : Addr} {m : Int} {ns : List Int} (h : Stream M p ns) (h0 : 0 < m) (h1 : m < 1073741824) (q : ∀ r M', 0 ≤ r → r < m → Mv M M' p ns → Q (.int r) M') : C_next [.ref p, .int m] M Q X := ⟨p, m, ns, rfl, h0, h1, h, q⟩
theorem w_next (ds : List D) (M : Mo) (Q : QE) (X : XQ) (h : C_next ds M Q X) : vSs g0 b_law_next (endsOf Q X) (startD 5 ds) M := by
  obtain ⟨p, m, ns, rfl, m0, m1, ⟨c, k, c0, k0, hs⟩, q⟩ := h
  have tail : ∀ (K : EndsD) (M1 : Mo) (x y : Option D) (c k : Int), K.rt = (endsOf Q X).rt → 0 ≤ c → 0 ≤ k → (∀ a, a ≠ p → M1 a = M a) → M1 p = some (.lst [.lst (ns.map .int), .int c, .int k]) → vSs g0 b_law_next_12 K [some (D.ref p), some (D.int m), x, y, none] M1 := by
    intro K M1 x y c k hK c0 k0 hf hs
    simp (maxSteps := 400000) only [vSs, vS, vE, vEs, vT, vTo, vEo, vI, setV, slV, seqL', keyD, startD, endsOf, List.map_cons, List.map_nil, List.length_cons, List.length_nil, List.replicate, List.cons_append, List.nil_append, Nat.reduceAdd, Nat.reduceSub, Nat.reduceLeDiff, List.getElem?_cons_zero, List.getElem?_cons_succ, Option.some.injEq, exists_eq_left', exists_eq_left, exists_eq', exists_eq, bindT, bindTs, List.set_cons_zero, List.set_cons_succ, ixV, atI0, atI1, atI2, atI3, cmpV, cmpEq, cmpIs, fOp, fCmp, binV, augV, Bi.wp, Bi.val, truD, wipeR, slotsT, slotsTs, Int.cast_ofNat_Int, seqV, seqF, seqL, Option.map_some, Option.map_none, D.ref.injEq, D.int.injEq, D.bl.injEq, MO.lst.injEq, exists_and_left, exists_and_right, updM_same, updM_updM, viewR, viewD, viewDs, flatD, ixN0, ixN1, ixN2, ifB, ifNB, Bool.not_true, Bool.not_false, Bool.false_eq_true, Bool.true_eq_false, if_true, if_false, ite_true, ite_false, true_and, and_true, or_true, true_or, or_false, false_or, false_and, and_false, String.reduceEq, eq_self, decide_true, decide_false, exIf, ne_eq, not_false_eq_true, Nat.zero_le, b_law_next_12, hs]
    refine ⟨by omega, ?_⟩
    simp (maxSteps := 400000) only [vSs, vS, vE, vEs, vT, vTo, vEo, vI, setV, slV, seqL', keyD, startD, endsOf, List.map_cons, List.map_nil, List.length_cons, List.length_nil, List.replicate, List.cons_append, List.nil_append, Nat.reduceAdd, Nat.reduceSub, Nat.reduceLeDiff, List.getElem?_cons_zero, List.getElem?_cons_succ, Option.some.injEq, exists_eq_left', exists_eq_left, exists_eq', exists_eq, bindT, bindTs, List.set_cons_zero, List.set_cons_succ, ixV, atI0, atI1, atI2, atI3, cmpV, cmpEq, cmpIs, fOp, fCmp, binV, augV, Bi.wp, Bi.val, truD, wipeR, slotsT, slotsTs, Int.cast_ofNat_Int, seqV, seqF, seqL, Option.map_some, Option.map_none, D.ref.injEq, D.int.injEq, D.bl.injEq, MO.lst.injEq, exists_and_left, exists_and_right, updM_same, updM_updM, viewR, viewD, viewDs, flatD, ixN0, ixN1, ixN2, ifB, ifNB, Bool.not_true, Bool.not_false, Bool.false_eq_true, Bool.true_eq_false, if_true, if_false, ite_true, ite_false, true_and, and_true, or_true, true_or, or_false, false_or, false_and, and_false, String.reduceEq, eq_self, decide_true, decide_false, exIf, ne_eq, not_false_eq_true, Nat.zero_le, b_law_next_11, hs]
    refine ⟨⟨by omega, by omega⟩, ?_⟩
    simp (maxSteps := 400000) only [vSs, vS, vE, vEs, vT, vTo, vEo, vI, setV, slV, seqL', keyD, startD, endsOf, List.map_cons, List.map_nil, List.length_cons, List.length_nil, List.replicate, List.cons_append, List.nil_append, Nat.reduceAdd, Nat.reduceSub, Nat.reduceLeDiff, List.getElem?_cons_zero, List.getElem?_cons_succ, Option.some.injEq, exists_eq_left', exists_eq_left, exists_eq', exists_eq, bindT, bindTs, List.set_cons_zero, List.set_cons_succ, ixV, atI0, atI1, atI2, atI3, cmpV, cmpEq, cmpIs, fOp, fCmp, binV, augV, Bi.wp, Bi.val, truD, wipeR, slotsT, slotsTs, Int.cast_ofNat_Int, seqV, seqF, seqL, Option.map_some, Option.map_none, D.ref.injEq, D.int.injEq, D.bl.injEq, MO.lst.injEq, exists_and_left, exists_and_right, updM_same, updM_updM, viewR, viewD, viewDs, flatD, ixN0, ixN1, ixN2, ifB, ifNB, Bool.not_true, Bool.not_false, Bool.false_eq_true, Bool.true_eq_false, if_true, if_false, ite_true, ite_false, true_and, and_true, or_true, true_or, or_false, false_or, false_and, and_false, String.reduceEq, eq_self, decide_true, decide_false, exIf, ne_eq, not_false_eq_true, Nat.zero_le, b_law_next_10, hK]
    refine ⟨_, Vp.Sub.refl _, q _ _ (Int.fmod_nonneg c0 (by omega)) (Int.fmod_lt_of_pos _ m0) ⟨fun a ha => ?_, c.fdiv m, k, Int.fdiv_nonneg c0 (by omega), k0, updM_same⟩⟩
    intro o ho; rw [updM_ne ha, hf a ha]; exact ho
  have mid : ∀ (K : EndsD) (y : Int), K.rt = (endsOf Q X).rt → 0 ≤ y → (∀ ρ M1, K.nx ρ M1 = vSs g0 b_law_next_12 { K with nx := (endsOf Q X).nx} ρ M1) → vSs g0 b_law_next_6 K [some (D.ref p), some (D.int m), some (D.int k), some (.int y), none] M := by
    intro K y hK y0 hn
    have fin : ∀ (K' : EndsD) (y : Int), 0 ≤ y → K'.nx = K.nx → vSs g0 b_law_next_5 K' [some (D.ref p), some (D.int m), some (D.int k), some (.int y), none] M := by
      intro K' y y0 hK'
      simp (maxSteps := 400000) only [vSs, vS, vE, vEs, vT, vTo, vEo, vI, setV, slV, seqL', keyD, startD, endsOf, List.map_cons, List.map_nil, List.length_cons, List.length_nil, List.replicate, List.cons_append, List.nil_append, Nat.reduceAdd, Nat.reduceSub, Nat.reduceLeDiff, List.getElem?_cons_zero, List.getElem?_cons_succ, Option.some.injEq, exists_eq_left', exists_eq_left, exists_eq', exists_eq, bindT, bindTs, List.set_cons_zero, List.set_cons_succ, ixV, atI0, atI1, atI2, atI3, cmpV, cmpEq, cmpIs, fOp, fCmp, binV, augV, Bi.wp, Bi.val, truD, wipeR, slotsT, slotsTs, Int.cast_ofNat_Int, seqV, seqF, seqL, Option.map_some, Option.map_none, D.ref.injEq, D.int.injEq, D.bl.injEq, MO.lst.injEq, exists_and_left, exists_and_right, updM_same, updM_updM, viewR, viewD, viewDs, flatD, ixN0, ixN1, ixN2, ifB, ifNB, Bool.not_true, Bool.not_false, Bool.false_eq_true, Bool.true_eq_false, if_true, if_false, ite_true, ite_false, true_and, and_true, or_true, true_or, or_false, false_or, false_and, and_false, String.reduceEq, eq_self, decide_true, decide_false, exIf, ne_eq, not_false_eq_true, Nat.zero_le, b_law_next_5, hs]
      simp (maxSteps := 400000) only [vSs, vS, vE, vEs, vT, vTo, vEo, vI, setV, slV, seqL', keyD, startD, endsOf, List.map_cons, List.map_nil, List.length_cons, List.length_nil, List.replicate, List.cons_append, List.nil_append, Nat.reduceAdd, Nat.reduceSub, Nat.reduceLeDiff, List.getElem?_cons_zero, List.getElem?_cons_succ, Option.some.injEq, exists_eq_left', exists_eq_left, exists_eq', exists_eq, bindT, bindTs, List.set_cons_zero, List.set_cons_succ, ixV, atI0, atI1, atI2, atI3, cmpV, cmpEq, cmpIs, fOp, fCmp, binV, augV, Bi.wp, Bi.val, truD, wipeR, slotsT, slotsTs, Int.cast_ofNat_Int, seqV, seqF, seqL, Option.map_some, Option.map_none, D.ref.injEq, D.int.injEq, D.bl.injEq, MO.lst.injEq, exists_and_left, exists_and_right, updM_same, updM_updM, viewR, viewD, viewDs, flatD, ixN0, ixN1, ixN2, ifB, ifNB, Bool.not_true, Bool.not_false, Bool.false_eq_true, Bool.true_eq_false, if_true, if_false, ite_true, ite_false, true_and, and_true, or_true, true_or, or_false, false_or, false_and, and_false, String.reduceEq, eq_self, decide_true, decide_false, exIf, ne_eq, not_false_eq_true, Nat.zero_le, b_law_next_4]
      rw [hK', hn]
      exact tail _ _ _ _ _ _ hK y0 (by omega : 0 ≤ k + 1) (fun a ha => by rw [updM_ne ha]) updM_same
    simp (maxSteps := 400000) only [vSs, vS, vE, vEs, vT, vTo, vEo, vI, setV, slV, seqL', keyD, startD, endsOf, List.map_cons, List.map_nil, List.length_cons, List.length_nil, List.replicate, List.cons_append, List.nil_append, Nat.reduceAdd, Nat.reduceSub, Nat.reduceLeDiff, List.getElem?_cons_zero, List.getElem?_cons_succ, Option.some.injEq, exists_eq_left', exists_eq_left, exists_eq', exists_eq, bindT, bindTs, List.set_cons_zero, List.set_cons_succ, ixV, atI0, atI1, atI2, atI3, cmpV, cmpEq, cmpIs, fOp, fCmp, binV, augV, Bi.wp, Bi.val, truD, wipeR, slotsT, slotsTs, Int.cast_ofNat_Int, seqV, seqF, seqL, Option.map_some, Option.map_none, D.ref.injEq, D.int.injEq, D.bl.injEq, MO.lst.injEq, exists_and_left, exists_and_right, updM_same, updM_updM, viewR, viewD, viewDs, flatD, ixN0, ixN1, ixN2, ifB, ifNB, Bool.not_true, Bool.not_false, Bool.false_eq_true, Bool.true_eq_false, if_true, if_false, ite_true, ite_false, true_and, and_true, or_true, true_or, or_false, false_or, false_and, and_false, String.reduceEq, eq_self, decide_true, decide_false, exIf, ne_eq, not_false_eq_true, Nat.zero_le, b_law_next_6]
    refine ⟨by decide, ?_⟩
    split
    · simp (maxSteps := 400000) only [vSs, vS, vE, vEs, vT, vTo, vEo, vI, setV, slV, seqL', keyD, startD, endsOf, List.map_cons, List.map_nil, List.length_cons, List.length_nil, List.replicate, List.cons_append, List.nil_append, Nat.reduceAdd, Nat.reduceSub, Nat.reduceLeDiff, List.getElem?_cons_zero, List.getElem?_cons_succ, Option.some.injEq, exists_eq_left', exists_eq_left, exists_eq', exists_eq, bindT, bindTs, List.set_cons_zero, List.set_cons_succ, ixV, atI0, atI1, atI2, atI3, cmpV, cmpEq, cmpIs, fOp, fCmp, binV, augV, Bi.wp, Bi.val, truD, wipeR, slotsT, slotsTs, Int.cast_ofNat_Int, seqV, seqF, seqL, Option.map_some, Option.map_none, D.ref.injEq, D.int.injEq, D.bl.injEq, MO.lst.injEq, exists_and_left, exists_and_right, updM_same, updM_updM, viewR, viewD, viewDs, flatD, ixN0, ixN1, ixN2, ifB, ifNB, Bool.not_true, Bool.not_false, Bool.false_eq_true, Bool.true_eq_false, if_true, if_false, ite_true, ite_false, true_and, and_true, or_true, true_or, or_false, false_or, false_and, and_false, String.reduceEq, eq_self, decide_true, decide_false, exIf, ne_eq, not_false_eq_true, Nat.zero_le, b_law_next_3]
      refine ⟨by omega, by omega, by omega, ?_⟩
      simp (maxSteps := 400000) only [vSs, vS, vE, vEs, vT, vTo, vEo, vI, setV, slV, seqL', keyD, startD, endsOf, List.map_cons, List.map_nil, List.length_cons, List.length_nil, List.replicate, List.cons_append, List.nil_append, Nat.reduceAdd, Nat.reduceSub, Nat.reduceLeDiff, List.getElem?_cons_zero, List.getElem?_cons_succ, Option.some.injEq, exists_eq_left', exists_eq_left, exists_eq', exists_eq, bindT, bindTs, List.set_cons_zero, List.set_cons_succ, ixV, atI0, atI1, atI2, atI3, cmpV, cmpEq, cmpIs, fOp, fCmp, binV, augV, Bi.wp, Bi.val, truD, wipeR, slotsT, slotsTs, Int.cast_ofNat_Int, seqV, seqF, seqL, Option.map_some, Option.map_none, D.ref.injEq, D.int.injEq, D.bl.injEq, MO.lst.injEq, exists_and_left, exists_and_right, updM_same, updM_updM, viewR, viewD, viewDs, flatD, ixN0, ixN1, ixN2, ifB, ifNB, Bool.not_true, Bool.not_false, Bool.false_eq_true, Bool.true_eq_false, if_true, if_false, ite_true, ite_false, true_and, and_true, or_true, true_or, or_false, false_or, false_and, and_false, String.reduceEq, eq_self, decide_true, decide_false, exIf, ne_eq, not_false_eq_true, Nat.zero_le, b_law_next_2]
      repeat (refine And.intro (by omega) ?_)
      exact fin _ _ (Int.add_nonneg (Int.mul_nonneg (Int.fmod_nonneg_of_pos _ (by decide)) (by decide)) (Int.fmod_nonneg_of_pos _ (by decide))) rfl
    · exact fin _ _ y0 rfl
  simp (maxSteps := 400000) only [vSs, vS, vE, vEs, vT, vTo, vEo, vI, setV, slV, seqL', keyD, startD, endsOf, List.map_cons, List.map_nil, List.length_cons, List.length_nil, List.replicate, List.cons_append, List.nil_append, Nat.reduceAdd, Nat.reduceSub, Nat.reduceLeDiff, List.getElem?_cons_zero, List.getElem?_cons_succ, Option.some.injEq, exists_eq_left', exists_eq_left, exists_eq', exists_eq, bindT, bindTs, List.set_cons_zero, List.set_cons_succ, ixV, atI0, atI1, atI2, atI3, cmpV, cmpEq, cmpIs, fOp, fCmp, binV, augV, Bi.wp, Bi.val, truD, wipeR, slotsT, slotsTs, Int.cast_ofNat_Int, seqV, seqF, seqL, Option.map_some, Option.map_none, D.ref.injEq, D.int.injEq, D.bl.injEq, MO.lst.injEq, exists_and_left, exists_and_right, updM_same, updM_updM, viewR, viewD, viewDs, flatD, ixN0, ixN1, ixN2, ifB, ifNB, Bool.not_true, Bool.not_false, Bool.false_eq_true, Bool.true_eq_false, if_true, if_false, ite_true, ite_false, true_and, and_true, or_true, true_or, or_false, false_or, false_and, and_false, String.reduceEq, eq_self, decide_true, decide_false, exIf, ne_eq, not_false_eq_true, Nat.zero_le, b_law_next, hs]
  split
  · simp (maxSteps := 400000) only [vSs, vS, vE, vEs, vT, vTo, vEo, vI, setV, slV, seqL', keyD, startD, endsOf, List.map_cons, List.map_nil, List.length_cons, List.length_nil, List.replicate, List.cons_append, List.nil_append, Nat.reduceAdd, Nat.reduceSub, Nat.reduceLeDiff, List.getElem?_cons_zero, List.getElem?_cons_succ, Option.some.injEq, exists_eq_left', exists_eq_left, exists_eq', exists_eq, bindT, bindTs, List.set_cons_zero, List.set_cons_succ, ixV, atI0, atI1, atI2, atI3, cmpV, cmpEq, cmpIs, fOp, fCmp, binV, augV, Bi.wp, Bi.val, truD, wipeR, slotsT, slotsTs, Int.cast_ofNat_Int, seqV, seqF, seqL, Option.map_some, Option.map_none, D.ref.injEq, D.int.injEq, D.bl.injEq, MO.lst.injEq, exists_and_left, exists_and_right, updM_same, updM_updM, viewR, viewD, viewDs, flatD, ixN0, ixN1, ixN2, ifB, ifNB, Bool.not_true, Bool.not_false, Bool.false_eq_true, Bool.true_eq_false, if_true, if_false, ite_true, ite_false, true_and, and_true, or_true, true_or, or_false, false_or, false_and, and_false, String.reduceEq, eq_self, decide_true, decide_false, exIf, ne_eq, not_false_eq_true, Nat.zero_le, b_law_next_9, hs]
    simp (maxSteps := 400000) only [vSs, vS, vE, vEs, vT, vTo, vEo, vI, setV, slV, seqL', keyD, startD, endsOf, List.map_cons, List.map_nil, List.length_cons, List.length_nil, List.replicate, List.cons_append, List.nil_append, Nat.reduceAdd, Nat.reduceSub, Nat.reduceLeDiff, List.getElem?_cons_zero, List.getElem?_cons_succ, Option.some.injEq, exists_eq_left', exists_eq_left, exists_eq', exists_eq, bindT, bindTs, List.set_cons_zero, List.set_cons_succ, ixV, atI0, atI1, atI2, atI3, cmpV, cmpEq, cmpIs, fOp, fCmp, binV, augV, Bi.wp, Bi.val, truD, wipeR, slotsT, slotsTs, Int.cast_ofNat_Int, seqV, seqF, seqL, Option.map_some, Option.map_none, D.ref.injEq, D.int.injEq, D.bl.injEq, MO.lst.injEq, exists_and_left, exists_and_right, updM_same, updM_updM, viewR, viewD, viewDs, flatD, ixN0, ixN1, ixN2, ifB, ifNB, Bool.not_true, Bool.not_false, Bool.false_eq_true, Bool.true_eq_false, if_true, if_false, ite_true, ite_false, true_and, and_true, or_true, true_or, or_false, false_or, false_and, and_false, String.reduceEq, eq_self, decide_true, decide_false, exIf, ne_eq, not_false_eq_true, Nat.zero_le, b_law_next_8]
    simp (maxSteps := 400000) only [vSs, vS, vE, vEs, vT, vTo, vEo, vI, setV, slV, seqL', keyD, startD, endsOf, List.map_cons, List.map_nil, List.length_cons, List.length_nil, List.replicate, List.cons_append, List.nil_append, Nat.reduceAdd, Nat.reduceSub, Nat.reduceLeDiff, List.getElem?_cons_zero, List.getElem?_cons_succ, Option.some.injEq, exists_eq_left', exists_eq_left, exists_eq', exists_eq, bindT, bindTs, List.set_cons_zero, List.set_cons_succ, ixV, atI0, atI1, atI2, atI3, cmpV, cmpEq, cmpIs, fOp, fCmp, binV, augV, Bi.wp, Bi.val, truD, wipeR, slotsT, slotsTs, Int.cast_ofNat_Int, seqV, seqF, seqL, Option.map_some, Option.map_none, D.ref.injEq, D.int.injEq, D.bl.injEq, MO.lst.injEq, exists_and_left, exists_and_right, updM_same, updM_updM, viewR, viewD, viewDs, flatD, ixN0, ixN1, ixN2, ifB, ifNB, Bool.not_true, Bool.not_false, Bool.false_eq_true, Bool.true_eq_false, if_true, if_false, ite_true, ite_false, true_and, and_true, or_true, true_or, or_false, false_or, false_and, and_false, String.reduceEq, eq_self, decide_true, decide_false, exIf, ne_eq, not_false_eq_true, Nat.zero_le, b_law_next_7, hs, List.length_map]
    split
    · simp (maxSteps := 400000) only [vSs, vS, vE, vEs, vT, vTo, vEo, vI, setV, slV, seqL', keyD, startD, endsOf, List.map_cons, List.map_nil, List.length_cons, List.length_nil, List.replicate, List.cons_append, List.nil_append, Nat.reduceAdd, Nat.reduceSub, Nat.reduceLeDiff, List.getElem?_cons_zero, List.getElem?_cons_succ, Option.some.injEq, exists_eq_left', exists_eq_left, exists_eq', exists_eq, bindT, bindTs, List.set_cons_zero, List.set_cons_succ, ixV, atI0, atI1, atI2, atI3, cmpV, cmpEq, cmpIs, fOp, fCmp, binV, augV, Bi.wp, Bi.val, truD, wipeR, slotsT, slotsTs, Int.cast_ofNat_Int, seqV, seqF, seqL, Option.map_some, Option.map_none, D.ref.injEq, D.int.injEq, D.bl.injEq, MO.lst.injEq, exists_and_left, exists_and_right, updM_same, updM_updM, viewR, viewD, viewDs, flatD, ixN0, ixN1, ixN2, ifB, ifNB, Bool.not_true, Bool.not_false, Bool.false_eq_true, Bool.true_eq_false, if_true, if_false, ite_true, ite_false, true_and, and_true, or_true, true_or, or_false, false_or, false_and, and_false, String.reduceEq, eq_self, decide_true, decide_false, exIf, ne_eq, not_false_eq_true, Nat.zero_le, b_law_next_1, hs]
      obtain ⟨j, rfl⟩ := Int.eq_ofNat_of_zero_le k0
      have hj : j < ns.length := by omega
      rw [atI_nat (v := D.int ns[j]) (by simp [hj])]
      simp (maxSteps := 400000) only [vSs, vS, vE, vEs, vT, vTo, vEo, vI, setV, slV, seqL', keyD, startD, endsOf, List.map_cons, List.map_nil, List.length_cons, List.length_nil, List.replicate, List.cons_append, List.nil_append, Nat.reduceAdd, Nat.reduceSub, Nat.reduceLeDiff, List.getElem?_cons_zero, List.getElem?_cons_succ, Option.some.injEq, exists_eq_left', exists_eq_left, exists_eq', exists_eq, bindT, bindTs, List.set_cons_zero, List.set_cons_succ, ixV, atI0, atI1, atI2, atI3, cmpV, cmpEq, cmpIs, fOp, fCmp, binV, augV, Bi.wp, Bi.val, truD, wipeR, slotsT, slotsTs, Int.cast_ofNat_Int, seqV, seqF, seqL, Option.map_some, Option.map_none, D.ref.injEq, D.int.injEq, D.bl.injEq, MO.lst.injEq, exists_and_left, exists_and_right, updM_same, updM_updM, viewR, viewD, viewDs, flatD, ixN0, ixN1, ixN2, ifB, ifNB, Bool.not_true, Bool.not_false, Bool.false_eq_true, Bool.true_eq_false, if_true, if_false, ite_true, ite_false, true_and, and_true, or_true, true_or, or_false, false_or, false_and, and_false, String.reduceEq, eq_self, decide_true, decide_false, exIf, ne_eq, not_false_eq_true, Nat.zero_le, vS]
      refine mid _ _ rfl (by split <;> omega) (fun _ _ => rfl)
    · exact mid _ _ rfl (by omega) (fun _ _ => rfl)
  · exact tail _ _ _ _ _ _ rfl c0 k0 (fun _ _ => rfl) hs

theorem vFor_cons {wb : EndsD → Rho → Mo → Prop} {tg : Tg} {K : EndsD} {d : D} {r : List D} {ρ : Rho} {M : Mo} (h : ∃ ρ', bindT tg d ρ = some ρ' ∧ ∀ N : Rho → Mo → Prop, (∀ ρ M, vFor wb tg K r ρ M → N ρ M) → wb { K with nx := N, ct := N, bk := K.nx } ρ' M) : vFor wb tg K (d :: r) ρ M := by
  obtain ⟨ρ', e, h⟩ := h
  exact ⟨ρ', e, h _ fun _ _ h => h⟩
theorem vComp_cons {we : VE} {wt : Rho → Mo → (Bool → Mo → Prop) → XQ → Prop} {tg : Tg} {ρ : Rho} {d : D} {r acc : List D} {M : Mo} {Q : List D → Mo → Prop} (h : ∃ ρ', bindT tg d (wipeR ρ (slotsT tg)) = some ρ' ∧ ∀ N : List D → Mo → Prop, (∀ a M, vComp we wt tg ρ r a M Q → N a M) → wt ρ' M (fun b M1 => if b = true then we ρ' M1 (fun y M2 => N (acc ++ [y]) M2) noX else N acc M1) noX) : vComp we wt tg ρ (d :: r) acc M Q := by
  obtain ⟨ρ', e, h⟩ := h
  exact ⟨ρ', e, h _ fun _ _ h => h⟩
/-- a comprehension by what stands with the items left -/
theorem vComp_run {α : Type} {we : VE} {wt : Rho → Mo → (Bool → Mo → Prop) → XQ → Prop} {tg : Tg} {ρ : Rho} (f : α → D) (I : List α → List D → Mo → Prop) {Q : List D → Mo → Prop}
    (step : ∀ x r acc M, I (x :: r) acc M → ∃ ρ', bindT tg (f x) (wipeR ρ (slotsT tg)) = some ρ' ∧ ∀ N : List D → Mo → Prop, (∀ a M, I r a M → N a M) → wt ρ' M (fun b M1 => if b = true then we ρ' M1 (fun y M2 => N (acc ++ [y]) M2) noX else N acc M1) noX)
    (fin : ∀ acc M, I [] acc M → Q acc M) : ∀ (xs : List α) (acc : List D) (M : Mo), I xs acc M → vComp we wt tg ρ (xs.map f) acc M Q
  | [], acc, M, h => fin acc M h
  | x :: r, acc, M, h => by
    obtain ⟨ρ', e, h⟩ := step x r acc M h
    exact vComp_cons ⟨ρ', e, fun N hN => h N fun a M hi => hN a M (vComp_run f I step fin r a M hi)⟩
/-- a comprehension that changes nothing -/
theorem vComp_map {α : Type} {we : VE} {wt : Rho → Mo → (Bool → Mo → Prop) → XQ → Prop} {tg : Tg} {ρ : Rho} (f g : α → D) {Q : List D → Mo → Prop} {M : Mo} {xs : List α} {acc : List D}
    (step : ∀ x ∈ xs, ∃ ρ', bindT tg (f x) (wipeR ρ (slotsT tg)) = some ρ' ∧ ∀ (N : QE) (N' : Mo → Prop), N (g x) M → wt ρ' M (fun b M1 => if b = true then we ρ' M1 N noX else N' M1) noX)
    (h : Q (acc ++ xs.map g) M) : vComp we wt tg ρ (xs.map f) acc M Q := by
  induction xs generalizing acc with
  | nil => simp only [List.map_nil, List.append_nil] at h; exact h
  | cons x r ih =>
    obtain ⟨ρ', e, hs⟩ := step x List.mem_cons_self
    exact vComp_cons ⟨ρ', e, fun N hN => hs _ _ (hN _ _ (ih (fun y hy => step y (List.mem_cons_of_mem _ hy)) (by simpa using h)))⟩
/-- a loop by what stands with the items left -/
theorem vFor_run {α : Type} {wb : EndsD → Rho → Mo → Prop} {tg : Tg} {K : EndsD} (f : α → D) (I : List α → Rho → Mo → Prop)
    (step : ∀ x r ρ M, I (x :: r) ρ M → ∃ ρ', bindT tg (f x) ρ = some ρ' ∧ ∀ N : Rho → Mo → Prop, (∀ ρ M, I r ρ M → N ρ M) → wb { K with nx := N, ct := N, bk := K.nx } ρ' M)
    (fin : ∀ ρ M, I [] ρ M → K.nx ρ M) : ∀ (xs : List α) (ρ : Rho) (M : Mo), I xs ρ M → vFor wb tg K (xs.map f) ρ M
  | [], ρ, M, h => fin ρ M h
  | x :: r, ρ, M, h => by
    obtain ⟨ρ', e, h⟩ := step x r ρ M h
    exact vFor_cons ⟨ρ', e, fun N hN => h N fun a M hi => hN a M (vFor_run f I step fin r a M hi)⟩
/-- a loop that looks at its items, changes nothing, and goes out at the first that is not good -/
theorem vFor_all {α : Type} {wb : EndsD → Rho → Mo → Prop} {tg : Tg} {K : EndsD} (f : α → D) (g : α → Bool) (S : Rho → Prop) {M : Mo}
    (step : ∀ x ρ, S ρ → ∃ ρ', bindT tg (f x) ρ = some ρ' ∧ ∀ N : Rho → Mo → Prop, (g x = true → ∀ ρ, S ρ → N ρ M) → (g x = false → K.rt (.bl false) M) → wb { K with nx := N, ct := N, bk := K.nx } ρ' M)
    : ∀ (xs : List α) (ρ : Rho), S ρ → (xs.all g = true → ∀ ρ, S ρ → K.nx ρ M) → (xs.all g = false → K.rt (.bl false) M) → vFor wb tg K (xs.map f) ρ M
  | [], ρ, h, hT, _ => hT rfl ρ h
  | x :: r, ρ, h, hT, hF => by
    obtain ⟨ρ', e, hs⟩ := step x ρ h
    refine vFor_cons ⟨ρ', e, fun N hN => hs N (fun hx ρ2 h2 => hN ρ2 M (vFor_all f g S step r ρ2 h2 (fun a => hT (by simp [hx, a])) (fun a => hF (by simp [hx, a])))) fun hx => hF (by simp [hx])⟩
/-- a loop over items that are all good, and that changes nothing -/
theorem vFor_keep {α : Type} {wb : EndsD → Rho → Mo → Prop} {tg : Tg} {K : EndsD} (f : α → D) (S : Rho → Prop) {M : Mo} {xs : List α} {ρ : Rho} (h : S ρ)
    (step : ∀ x ∈ xs, ∀ ρ, S ρ → ∃ ρ', bindT tg (f x) ρ = some ρ' ∧ ∀ N : Rho → Mo → Prop, (∀ ρ, S ρ → N ρ M) → wb { K with nx := N, ct := N, bk := K.nx } ρ' M)
    (fin : ∀ ρ, S ρ → K.nx ρ M) : vFor wb tg K (xs.map f) ρ M := by
  induction xs generalizing ρ with
  | nil => exact fin ρ h
  | cons x r ih =>
    obtain ⟨ρ', e, hs⟩ := step x List.mem_cons_self ρ h
    exact vFor_cons ⟨ρ', e, fun N hN => hs N fun ρ2 h2 => hN ρ2 M (ih h2 fun y hy => step y (List.mem_cons_of_mem _ hy))⟩
theorem zipWith_same {α : Type} (f : α → D) (xs : List α) : List.zipWith prD (xs.map f) (xs.map f) = xs.map fun x => prD (f x) (f x) := by
  induction xs with
  | nil => rfl
  | cons x xs ih => simp [ih]
abbrev F_next : Fn := ⟨"_law_next", 2, C_next⟩
abbrev F_stream : Fn := ⟨"_law_stream", 1, C_stream⟩
theorem zipWith_pair {α β : Type} (f : α → D) (g : β → D) (xs : List α) (ys : List β) : List.zipWith prD (xs.map f) (ys.map g) = (xs.zip ys).map fun p => prD (f p.1) (g p.2) := by
  induction xs generalizing ys with
  | nil => rfl
  | cons x xs ih => cases ys with
    | nil => rfl
    | cons y ys => simp [ih]
end Vp
namespace Vp
open PySem PySem.Spec PyProof.Rows L2

/-! ### the head's facts, looked at from the module's names and the interpreter's own -/
/-- what an object names that the head's facts look at (not a code's own parts) -/
def refW (o : Obj) : List Addr := match o.data with
  | .seq its _ => its.toList.flatMap He.refV
  | .dict es _ => es.toList.flatMap fun e => He.refV e.val
  | .func fd => He.refV fd.code ++ (He.refV fd.defaults ++ He.refV fd.kwdefaults)
  | .cls cd => cd.ns :: cd.mro.tail.flatMap He.refV
  | _ => []
def layW (g : Addr → Option Obj) (as : List Addr) : List Addr := as.flatMap fun a => match g a with
  | some o => refW o
  | none => []
/-- layer by layer, each from the one before alone -/
def asV (g : Addr → Option Obj) : Nat → List Addr → List Addr
  | 0, as => as
  | n + 1, as => as ++ asV g n (layW g as)
def frV (n : Nat) (g : Addr → Option Obj) : PySem.W.Frag := He.frT g (cStatics :: asV g n [mainGlobals])
section
variable {n : Nat} {fa : List He.Fa} {fn : List He.DefD} {ts : List He.Tab} {tf : List He.Defn} {ex : PySem.W.Frag → Bool}
def obsV (n : Nat) (fa : List He.Fa) (fn : List He.DefD) (ts : List He.Tab) (tf : List He.Defn) (ex : PySem.W.Frag → Bool) (g : Addr → Option Obj) : He.AlX :=
  let K := frV n g; (He.obsT fa fn ts K, ex K && He.tabsB g tf K)
theorem saysV {w : World} {h : Heap} (e : obsV n fa fn ts tf ex h.get? = He.valX fn ts w) : He.SaysX fa fn ts tf ex w h (frV n h.get?) := by
  obtain ⟨e1, e2⟩ := Prod.mk.inj e
  obtain ⟨b1, b2⟩ := He.ba e2
  have one : ∀ p ∈ tf, PySem.W.codeHdIn (frV n h.get?) (He.cT (frV n h.get?) p).1 (He.cT (frV n h.get?) p).2 = true ∧ ∃ o, h.get? (He.cT (frV n h.get?) p).2 = some o ∧ He.emptyTab o = true := by
    intro p hp
    obtain ⟨c1, c2⟩ := He.ba (List.all_eq_true.mp b2 p hp)
    refine ⟨c1, ?_⟩
    revert c2
    cases h.get? (He.cT (frV n h.get?) p).2 with
    | none => exact fun c2 => nomatch c2
    | some o => exact fun c2 => ⟨o, rfl, c2⟩
  refine ⟨e1, b1, fun p hp => (one p hp).1, fun p hp => ?_, fun p hp => ?_⟩ <;> obtain ⟨_, o, q, z⟩ := one p hp
  · exact He.frT_none q z
  · rw [q, He.emptyTab_eq z]
def hookV (n : Nat) (fa : List He.Fa) (fn : List He.DefD) (ts : List He.Tab) (tf : List He.Defn) (ex : PySem.W.Frag → Bool) : PySem.W.Hook where
  α := He.AlX
  obs := fun s => obsV n fa fn ts tf ex s.heap.get?
  val := He.valX fn ts
  says := fun w h => ∃ K : PySem.W.Frag, K.In h ∧ He.SaysX fa fn ts tf ex w h K
  of := fun _ s e => ⟨frV n s.heap.get?, He.frT_in, saysV e⟩
  keeps := fun _ _ _ ⟨K, hK, c⟩ k => ⟨K, hK.keeps k, c.t, c.more, c.hd, c.out, fun p hp => k _ _ (c.empty p hp)⟩
theorem obsV_eq {g : Addr → Option Obj} {s : Shared} (h : ∀ a, g a = s.heap.get? a) : obsV n fa fn ts tf ex g = (hookV n fa fn ts tf ex).obs s := by
  obtain rfl : g = s.heap.get? := funext h
  rfl
end
/-! ### values of the text by data -/
mutual
def repB (K : PySem.W.Frag) : D → Value → Bool
  | .non, v => (match v with | .none => true | _ => false)
  | .bl b, v => (match v with | .bool c => b == c | _ => false)
  | .int i, v => (match v with | .int j _ => decide (j = i) | _ => false)
  | .str x, v => (match v with | .str y _ => decide (y = x) | _ => false)
  | .tup ds, v => (match v with | .ref a => (match K.lookup a with | some ⟨.type c, _, .seq its _, _⟩ => decide (c = "tuple") && (decide (its.size ≤ sizeLine) && repsB K ds its.toList) | _ => false) | _ => false)
  | _, _ => false
def repsB (K : PySem.W.Frag) : List D → List Value → Bool
  | [], us => us.isEmpty
  | d :: ds, us => (match us with | [] => false | u :: us => repB K d u && repsB K ds us)
end
mutual
theorem repB_ok {K : PySem.W.Frag} : ∀ (d : D) (u : Value), repB K d u = true → ∃ v, RelV v u ∧ ∀ F, Rep K F v d
  | .non, u, h => by cases u <;> first | (unfold repB at h; cases h; done) | exact ⟨.non, rfl, fun _ => .non⟩
  | .bl b, u, h => by
    cases u <;> first | (unfold repB at h; cases h; done) | skip
    unfold repB at h
    obtain rfl := eq_of_beq h
    exact ⟨.bl b, rfl, fun _ => .bl b⟩
  | .int i, u, h => by
    cases u <;> first | (unfold repB at h; cases h; done) | skip
    unfold repB at h
    obtain rfl := of_decide_eq_true h
    exact ⟨.int _, ⟨_, rfl⟩, fun _ => .int _⟩
  | .str x, u, h => by
    cases u <;> first | (unfold repB at h; cases h; done) | skip
    unfold repB at h
    obtain rfl := of_decide_eq_true h
    exact ⟨.str _, ⟨_, rfl⟩, fun _ => .str _⟩
  | .tup ds, u, h => by
    cases u <;> first | (unfold repB at h; cases h; done) | skip
    rename_i a
    unfold repB at h
    dsimp only at h
    split at h
    · rename_i c od its n sl q
      obtain ⟨h1, h2⟩ := He.ba h
      obtain ⟨h3, h4⟩ := He.ba h2
      obtain ⟨vs, rv, rr⟩ := repsB_ok ds its.toList h4
      exact ⟨.ref a, rfl, fun F => .tup (.inr ⟨_, its, n, q, congrArg Value.type (of_decide_eq_true h1), rfl, of_decide_eq_true h3, rv⟩) (rr F)⟩
    · cases h
  | .lst _, _, h => by unfold repB at h; cases h
  | .ref _, _, h => by unfold repB at h; cases h
  | .ty _, _, h => by unfold repB at h; cases h
  | .dic _ _, _, h => by unfold repB at h; cases h
theorem repsB_ok {K : PySem.W.Frag} : ∀ (ds : List D) (us : List Value), repsB K ds us = true → ∃ vs, Vals vs us ∧ ∀ F, RepL K F vs ds
  | [], [], _ => ⟨[], .nil, fun _ => .nil⟩
  | [], _ :: _, h => by unfold repsB at h; cases h
  | _ :: _, [], h => by unfold repsB at h; cases h
  | d :: ds, u :: us, h => by
    unfold repsB at h
    obtain ⟨h1, h2⟩ := He.ba h
    obtain ⟨v, rv, rr⟩ := repB_ok d u h1
    obtain ⟨vs, rvs, rrs⟩ := repsB_ok ds us h2
    exact ⟨v :: vs, .cons rv rvs, fun F => .cons (rr F) (rrs F)⟩
end
/-- the constant of that name -/
def cstB (x : Str) (d : D) (K : PySem.W.Frag) : Bool := match PySem.W.nsIn K mainGlobals x with | some (some v) => repB K d v | _ => false
theorem cstB_ok {K : PySem.W.Frag} {h : Heap} {mg : Str → Option Value} (X : K.In h) (G : h.Ns mainGlobals mg) {x : Str} {d : D} (c : cstB x d K = true) : ∃ v u, mg x = some u ∧ RelV v u ∧ ∀ F, Rep K F v d := by
  unfold cstB at c
  split at c
  · rename_i u e
    obtain ⟨v, rv, rr⟩ := repB_ok d u c
    exact ⟨v, u, PySem.W.mg_of X G e, rv, rr⟩
  · cases c
/-- a def or a dict of that name -/
theorem glo_cs {K : PySem.W.Frag} {h : Heap} {mg : Str → Option Value} (X : K.In h) (G : h.Ns mainGlobals mg) {x : Str} (c : (He.Fa.glo x).ok K = true) : ∃ v u, mg x = some u ∧ RelV v u ∧ ∀ F, Rep K F v (.ref (He.ga K x)) := ⟨.ref _, _, He.glo_ok X G c, rfl, fun _ => .ref _⟩
/-- the dict of that name, its entries -/
def kdL (K : PySem.W.Frag) : List (Str × D) → List DictEntry → Bool
  | [], es => es.isEmpty
  | p :: r, es => (match es with | [] => false | e :: es => e.key.isStr p.1 && (!e.refKey && (repB K p.2 e.val && kdL K r es)))
def kdB (x : Str) (kvs : List (Str × D)) (K : PySem.W.Frag) : Bool := match K.lookup (He.ga K x) with | some ⟨_, _, .dict es _, _⟩ => kdL K kvs es.toList | _ => false
theorem isStr_eq {v : Value} {a b : Str} (h : v.isStr a = true) : v.isStr b = (b == a) := by
  cases v with
  | str s t =>
    have e : s = a := eq_of_beq (show (s == a) = true from h)
    subst e
    show (s == b) = (b == s)
    by_cases e : b = s
    · subst e; rfl
    · rw [beq_eq_false_iff_ne.mpr e, beq_eq_false_iff_ne.mpr (Ne.symm e)]
  | _ => cases h
theorem kdL_ok {K : PySem.W.Frag} : ∀ (kvs : List (Str × D)) (es : List DictEntry), kdL K kvs es = true → (es.any (·.refKey)) = false ∧ ∀ z : Str, (es.find? (·.key.isStr z) = none ∧ kvs.lookup z = none) ∨ ∃ e d, es.find? (·.key.isStr z) = some e ∧ kvs.lookup z = some d ∧ repB K d e.val = true
  | [], [], _ => ⟨rfl, fun z => .inl ⟨rfl, rfl⟩⟩
  | [], _ :: _, h => by unfold kdL at h; cases h
  | _ :: _, [], h => by unfold kdL at h; cases h
  | (k, d) :: r, e :: es, h => by
    unfold kdL at h
    obtain ⟨h1, g2⟩ := He.ba h
    obtain ⟨h2, g3⟩ := He.ba g2
    obtain ⟨h3, h4⟩ := He.ba g3
    obtain ⟨i1, i2⟩ := kdL_ok r es h4
    refine ⟨by rw [List.any_cons, i1]; simpa using h2, fun z => ?_⟩
    have hz := isStr_eq (b := z) h1
    by_cases q : z = k
    · subst q
      refine .inr ⟨e, d, ?_, ?_, h3⟩
      · rw [List.find?_cons, h1]
      · simp [List.lookup]
    · have q' : (z == k) = false := beq_eq_false_iff_ne.mpr q
      rw [List.find?_cons, hz, q']
      simp only [List.lookup, q']
      exact i2 z
theorem kdB_ok {K : PySem.W.Frag} {w : World} {x : Str} {kvs : List (Str × D)} (c : kdB x kvs K = true) (t : ∃ es n, KDict K w (He.ga K x) es n) : ∃ es n, KDict K w (He.ga K x) es n ∧ ∀ z : Str, (PySem.W.nsIn K (He.ga K x) z = some none ∧ kvs.lookup z = none) ∨ ∃ u v d, PySem.W.nsIn K (He.ga K x) z = some (some u) ∧ kvs.lookup z = some d ∧ RelV v u ∧ ∀ F, Rep K F v d := by
  obtain ⟨es, n, kd⟩ := t
  refine ⟨es, n, kd, fun z => ?_⟩
  unfold kdB at c
  rw [kd.at_] at c
  obtain ⟨h1, h2⟩ := kdL_ok kvs es.toList c
  unfold PySem.W.nsIn
  rw [kd.at_]
  rcases h2 z with ⟨e1, e2⟩ | ⟨e, d, e1, e2, e3⟩
  · left
    refine ⟨?_, e2⟩
    simp only [e1, h1]
    rfl
  · right
    obtain ⟨v, rv, rr⟩ := repB_ok d e.val e3
    refine ⟨e.val, v, d, ?_, e2, rv, rr⟩
    simp only [e1]
/-! ### exceptions of the text -/
def oexB (x : Str) (K : PySem.W.Frag) : Bool := (match K.lookup (He.ga K x) with
  | some ⟨.type t, _, .cls cd, sl⟩ => decide (t = "type") && ((match cd.mro with | .ref c :: bm => c == He.ga K x && HandSPX.refsVE bm | _ => false) && (cd.hasDict && (!cd.hasDel && (match sl.toList with | [_, _, _, _, some (.builtin n), _] => n == "ValueError.__new__" | _ => false))))
  | _ => false) && (He.eqO (PySem.W.findIn K (.ref (He.ga K x)) "__setattr__") (some (some (.builtin "object.__setattr__"))) && (decide (PySem.W.subIn K (.ref (He.ga K x)) (.type "BaseException") = some true) && (decide (PySem.W.typeIn K (.ref (He.ga K x)) = some (.type "type")) && PySem.W.keepIn K (.ref (He.ga K x)))))
theorem oexB_ok {K : PySem.W.Frag} {x : Str} (h : oexB x K = true) : OexC K (He.ga K x) := by
  obtain ⟨h1, g2⟩ := He.ba h
  obtain ⟨h2, g3⟩ := He.ba g2
  obtain ⟨h3, g4⟩ := He.ba g3
  obtain ⟨h4, h5⟩ := He.ba g4
  refine ⟨?_, He.eqO_ok h2, of_decide_eq_true h3, of_decide_eq_true h4, h5⟩
  split at h1
  · rename_i t dd cd sl q
    obtain ⟨a1, b2⟩ := He.ba h1
    obtain ⟨a2, b3⟩ := He.ba b2
    obtain ⟨a3, b4⟩ := He.ba b3
    obtain ⟨a4, a5⟩ := He.ba b4
    obtain rfl := of_decide_eq_true a1
    obtain ⟨nm, bs, mro, ns, qn, hd, sn, sub, ab, col, del⟩ := cd
    obtain ⟨sl⟩ := sl
    dsimp only at a2 a3 a4 a5
    split at a2
    · rename_i c bm
      obtain ⟨a6, a7⟩ := He.ba a2
      obtain rfl := beq_iff_eq.mp a6
      rcases sl with _ | ⟨k0, _ | ⟨k1, _ | ⟨k2, _ | ⟨k3, _ | ⟨k4, _ | ⟨k5, _ | ⟨k6, r⟩⟩⟩⟩⟩⟩⟩
      · simp at a5
      · simp at a5
      · simp at a5
      · simp at a5
      · simp at a5
      · simp at a5
      · subst a3
        have hdel : del = false := by simpa using a4
        subst hdel
        rcases k4 with _ | v
        · simp at a5
        · cases v <;> first | (cases a5; done) | skip
          rename_i nn
          obtain rfl := beq_iff_eq.mp (show (nn == "ValueError.__new__") = true from a5)
          exact ⟨nm, qn, ns, bs, bm, sn, sub, ab, col, dd, k0, k1, k2, k3, k5, q, a7⟩
      · simp at a5
    · cases a2
  · cases h1
/-- a class above exceptions, its __init__ ValueError's -/
def peB (x : Str) (K : PySem.W.Frag) : Bool := He.eqO (PySem.W.specialIn K (.ref (He.ga K x)) "__getattribute__") (some (some (.builtin "type.__getattribute__"))) && (PySem.W.readsIn K (He.ga K x) (.type "type") && (match PySem.W.findCls K (.ref (He.ga K x)) (.type "type") "__init__" with | some (.val (.builtin n)) => n == "ValueError.__init__" | _ => false))
theorem peB_ok {K : PySem.W.Frag} {h : Heap} {mg : Str → Option Value} (X : K.In h) (G : h.Ns mainGlobals mg) {x : Str} (g : (He.Fa.glo x).ok K = true) (c : peB x K = true) : ∃ B mc, mg x = some (.ref B) ∧ PySem.W.specialIn K (.ref B) "__getattribute__" = some (some (.builtin "type.__getattribute__")) ∧ PySem.W.readsIn K B mc = true ∧ PySem.W.findCls K (.ref B) mc "__init__" = some (.val (.builtin "ValueError.__init__")) := by
  obtain ⟨h1, g2⟩ := He.ba c
  obtain ⟨h2, h3⟩ := He.ba g2
  refine ⟨He.ga K x, .type "type", He.glo_ok X G g, He.eqO_ok h1, h2, ?_⟩
  split at h3
  · rename_i n e
    rw [e, beq_iff_eq.mp h3]
  · cases h3
/-- its __init__ is a def of the text -/
def xinB (x : Str) (K : PySem.W.Frag) : Bool := He.eqO (PySem.W.findIn K (.ref (He.ga K x)) "__init__") (some (some (.ref (He.ma K (He.ga K x) "__init__")))) && decide (PySem.W.typeIn K (.ref (He.ma K (He.ga K x) "__init__")) = some (.type "function"))
def xflB (x f : Str) (K : PySem.W.Frag) : Bool := He.eqO (PySem.W.findIn K (.ref (He.ga K x)) f) (some none)
end Vp
namespace Vp
open PySem PySem.Spec PyProof.Rows L2

/-! ### equality of data -/
structure Fine (n : Nat) (d : D) : Prop where
  ok : pyOk d = true
  lay : (toPy d).canLay0 = true
  dep : (toPy d).depth ≤ n
theorem Fine.mono {n m : Nat} {d : D} (h : Fine n d) (k : n ≤ m) : Fine m d := ⟨h.ok, h.lay, Nat.le_trans h.dep k⟩
theorem Fine.int (i : Int) : Fine 1 (.int i) := ⟨rfl, rfl, by simp [toPy, PyData.depth]⟩
theorem Fine.bl (i : Bool) : Fine 1 (.bl i) := ⟨rfl, rfl, by simp [toPy, PyData.depth]⟩
theorem Fine.non : Fine 1 .non := ⟨rfl, rfl, by simp [toPy, PyData.depth]⟩
theorem fine_all {n : Nat} : ∀ {ds : List D}, (∀ d ∈ ds, Fine n d) → pyOks ds = true ∧ PyData.canLayAll0 (toPys ds) = true ∧ PyData.depthAll (toPys ds) ≤ n
  | [], _ => ⟨rfl, rfl, by simp [toPys, PyData.depthAll]⟩
  | d :: ds, h => by
    obtain ⟨a, b, c⟩ := fine_all fun x hx => h x (List.mem_cons_of_mem _ hx)
    have hd := h d List.mem_cons_self
    refine ⟨by unfold pyOks; rw [hd.ok, a]; rfl, by unfold toPys PyData.canLayAll0; rw [hd.lay, b]; rfl, ?_⟩
    unfold toPys PyData.depthAll
    have := hd.dep
    omega
theorem Fine.lst {n : Nat} {ds : List D} (h : ∀ d ∈ ds, Fine n d) : Fine (n + 1) (.lst ds) := by
  obtain ⟨a, b, c⟩ := fine_all h
  refine ⟨by unfold pyOk; exact a, by unfold toPy PyData.canLay0; exact b, ?_⟩
  unfold toPy PyData.depth
  omega
theorem Fine.tup {n : Nat} {ds : List D} (h : ∀ d ∈ ds, Fine n d) : Fine (n + 1) (.tup ds) := by
  obtain ⟨a, b, c⟩ := fine_all h
  refine ⟨by unfold pyOk; exact a, by unfold toPy PyData.canLay0; exact b, ?_⟩
  unfold toPy PyData.depth
  omega
theorem Fine.ok' {n : Nat} {d : D} (h : Fine n d) (k : n ≤ 64) : eqOk d = true := by
  unfold eqOk SeqAt.shaped
  rw [h.ok, h.lay, decide_eq_true (Nat.le_trans h.dep k)]
  rfl
abbrev eqD (a b : D) : Bool := PyData.eqv (toPy a) (toPy b)
theorem eqAll_map {α : Type} [DecidableEq α] {f : α → D} (h : ∀ x y, eqD (f x) (f y) = decide (x = y)) : ∀ xs ys : List α, PyData.eqvAll (toPys (xs.map f)) (toPys (ys.map f)) = decide (xs = ys)
  | [], [] => by simp [toPys, PyData.eqvAll]
  | [], _ :: _ => by simp [toPys, PyData.eqvAll]
  | _ :: _, [] => by simp [toPys, PyData.eqvAll]
  | x :: xs, y :: ys => by
    rw [List.map_cons, List.map_cons]
    unfold toPys PyData.eqvAll
    rw [show PyData.eqv (toPy (f x)) (toPy (f y)) = decide (x = y) from h x y, eqAll_map h xs ys]
    by_cases e : x = y
    · subst e; simp
    · simp [e]
theorem eqD_int (x y : Int) : eqD (.int x) (.int y) = decide (x = y) := by
  unfold eqD toPy PyData.eqv
  by_cases e : x = y <;> simp [e]
theorem eqD_ints (xs ys : List Int) : eqD (.lst (xs.map .int)) (.lst (ys.map .int)) = decide (xs = ys) := by
  unfold eqD toPy PyData.eqv
  exact eqAll_map eqD_int xs ys
theorem fine_ints (xs : List Int) : Fine 2 (.lst (xs.map .int)) := Fine.lst fun d hd => by
  obtain ⟨i, _, rfl⟩ := List.mem_map.mp hd
  exact .int i
theorem cmp_lst {n : Nat} {a b : List D} (h : Fine n (.lst a)) (h2 : Fine n (.lst b)) (k : n ≤ 64) : cmpEq (.lst a) (.lst b) = some (eqD (.lst a) (.lst b)) := by
  show (if eqOk (.lst a) && eqOk (.lst b) then some (PyData.eqv (toPy (.lst a)) (toPy (.lst b))) else none) = _
  rw [h.ok' k, h2.ok' k]; rfl
theorem cmp_ints (xs ys : List Int) : cmpEq (.lst (xs.map .int)) (.lst (ys.map .int)) = some (decide (xs = ys)) := by
  rw [cmp_lst (fine_ints xs) (fine_ints ys) (by decide), eqD_ints]
theorem cmp_two (a b c d : List Int) : cmpEq (.lst [.lst (a.map .int), .lst (b.map .int)]) (.lst [.lst (c.map .int), .lst (d.map .int)]) = some (decide (a = c ∧ b = d)) := by
  have f : ∀ u v : List Int, Fine 3 (.lst [.lst (u.map .int), .lst (v.map .int)]) := fun u v => Fine.lst fun d hd => by
    rcases List.mem_cons.mp hd with rfl | hd
    · exact fine_ints u
    · obtain rfl := List.mem_singleton.mp hd
      exact fine_ints v
  rw [cmp_lst (f a b) (f c d) (by decide)]
  congr 1
  have e1 := eqD_ints a c
  have e2 := eqD_ints b d
  unfold eqD at e1 e2 ⊢
  unfold toPy PyData.eqv toPys PyData.eqvAll toPys PyData.eqvAll toPys PyData.eqvAll
  rw [e1, e2]
  by_cases h1 : a = c <;> by_cases h2 : b = d <;> simp [h1, h2]
theorem view_ints (M : Mo) : ∀ x : List Int, viewDs M (x.map .int) = x.map .int
  | [] => rfl
  | _ :: r => by rw [List.map_cons]; unfold viewDs; rw [view_ints M r]; unfold viewD; rfl
theorem two_ok (u v : List Int) : eqOk (.lst [.lst (u.map .int), .lst (v.map .int)]) = true := (show Fine 3 _ from Fine.lst fun d hd => by
    rcases List.mem_cons.mp hd with rfl | hd
    · exact fine_ints u
    · obtain rfl := List.mem_singleton.mp hd
      exact fine_ints v).ok' (by decide)
theorem eqD_self {n : Nat} {d : D} (h : Fine n d) : PyData.eqv (toPy d) (toPy d) = true := SeqAt.eqv_refl _ h.lay
theorem two_eq (u v : List Int) : PyData.eqv (toPy (.lst [.lst (u.map .int), .lst (v.map .int)])) (toPy (.lst [.lst (u.map .int), .lst (v.map .int)])) = true := eqD_self (n := 3) (Fine.lst fun d hd => by
    rcases List.mem_cons.mp hd with rfl | hd
    · exact fine_ints u
    · obtain rfl := List.mem_singleton.mp hd
      exact fine_ints v)
theorem ints_ok (x : List Int) : eqOk (.lst (x.map .int)) = true := (fine_ints x).ok' (by decide)
theorem ints_eqv (x y : List Int) : PyData.eqv (toPy (.lst (x.map .int))) (toPy (.lst (y.map .int))) = decide (x = y) := eqD_ints x y
theorem val_put {κ : Type} [DecidableEq κ] {v : D} {k k' : κ} : ∀ {kvs : List (κ × D)}, valD (putD kvs k v) k' = if k = k' then some v else valD kvs k'
  | [] => by
    unfold putD valD
    by_cases h : k = k' <;> simp [h]
  | (a, d) :: kvs => by
    have ih := val_put (v := v) (k := k) (k' := k') (kvs := kvs)
    unfold putD valD at ih ⊢
    by_cases ha : a = k
    · subst ha
      by_cases h : a = k'
      · subst h; simp
      · have hh : ∀ l : List (κ × D), List.find? (fun kv => decide (kv.1 = k')) (List.map (fun kv => if kv.1 = a then (kv.1, v) else kv) l) = List.find? (fun kv => decide (kv.1 = k')) l := fun l => by
          induction l with
          | nil => rfl
          | cons x l ih =>
            simp only [List.map_cons, List.find?_cons]
            by_cases hx : x.1 = a
            · have hk : ¬ x.1 = k' := fun z => h (hx.symm.trans z)
              simp only [if_pos hx, hk, decide_false]
              exact ih
            · simp only [if_neg hx, ih]
        simp only [List.any_cons, decide_true, Bool.true_or, if_true, List.map_cons, List.find?_cons, h, decide_false, if_false, hh]
    · simp only [List.any_cons, ha, decide_false, Bool.false_or, List.map_cons, if_false, List.cons_append, List.find?_cons] at ih ⊢
      by_cases hk : a = k'
      · have hk2 : ¬ k = k' := fun z => ha (hk.trans z.symm)
        split <;> simp [hk, hk2]
      · split <;> rename_i hz <;> simp only [hz, if_true, if_false, Bool.false_eq_true] at ih <;> simp only [List.find?_cons, hk, decide_false] <;> exact ih
theorem put_len {κ : Type} [DecidableEq κ] {v : D} {k : κ} {kvs : List (κ × D)} : (putD kvs k v).length ≤ kvs.length + 1 := by
  unfold putD
  split <;> simp
theorem rgc_down (n : Nat) (h : n ≤ 16777216) : RgC ((n : Int) - 1) (-1) (-1) n := by
  have e := RgC.neg (i := (n : Int) - 1) (j := -1) (by omega) (by omega) (by decide) (by decide)
  have e2 : ((n : Int) - 1 - -1).toNat = n := by omega
  rwa [e2] at e
end Vp
namespace Vp
open PySem PySem.Spec PyProof.Rows L2

/-! ### the defs of a text, put together -/
/-- a def that stands at f: its code, how a call binds -/
structure DefK (K : PySem.W.Frag) (x qual : Str) (st : Stmt) (ps : List Str) (f : Addr) : Prop where
  ex : ∃ fd cdv, FunC K x qual st f fd cdv ∧ Binds K fd ps []
  kp : PySem.W.keepIn K (.ref f) = true
theorem DefK.of {K : PySem.W.Frag} {x qual : Str} {st : Stmt} {ps : List Str} {f : Addr} {kws : List (Str × V)} (F : ∃ fd, FunD K x qual (defArgs st) (defBody st) (defScope st) [] kws f fd)
    (h : ∀ (kV doc pm : Value) (an : Option Addr) (cdv ct : Value) (us : List Value), us.length = ps.length → bindArgs (PySem.W.fnOf x qual (defArgs st) (defBody st) (defScope st) .none kV doc pm an cdv ct) ⟨us, []⟩ = pure (ps.zip us)) : DefK K x qual st ps f := by
  obtain ⟨fd, F⟩ := F
  have b := F.bindsN h
  obtain ⟨oc, od, dV, kV, doc, pm, an, cdv, ct, osl, e, lk, hcd, _, _⟩ := F.ex
  exact ⟨⟨fd, cdv, ⟨oc, od, dV, kV, doc, pm, an, ct, osl, e, lk, hcd⟩, b⟩, F.kp⟩
/-- .. with one default, all arguments given -/
theorem DefK.ofD {K : PySem.W.Frag} {x qual : Str} {st : Stmt} {ps : List Str} {f : Addr} {v : V} {kws : List (Str × V)} (F : ∃ fd, FunD K x qual (defArgs st) (defBody st) (defScope st) [v] kws f fd)
    (h : ∀ (T : Addr) (kV doc pm : Value) (an : Option Addr) (cdv ct : Value) (us its : List Value), us.length = ps.length → its.length = 1 →
      ∃ k, bindArgs (PySem.W.fnOf x qual (defArgs st) (defBody st) (defScope st) (.ref T) kV doc pm an cdv ct) ⟨us, []⟩ = seqItems? (.ref T) >>= k ∧ k (some its.toArray) = pure (ps.zip (us ++ its.drop 1))) : DefK K x qual st ps f := by
  obtain ⟨fd, F⟩ := F
  obtain ⟨ds, hv, B⟩ := F.binds1 (ps := ps) ps.length 1 (by simp) (by simp) h
  cases hv
  obtain ⟨oc, od, dV, kV, doc, pm, an, cdv, ct, osl, e, lk, hcd, _, _⟩ := F.ex
  exact ⟨⟨fd, cdv, ⟨oc, od, dV, kV, doc, pm, an, ct, osl, e, lk, hcd⟩, B⟩, F.kp⟩
section
variable {P : Program} {w : World} {K : PySem.W.Frag} {mg : Str → Option Value} {base : Heap} {k j : Nat}
theorem all_nil {α : Type} {P : α → Prop} : ∀ g ∈ ([] : List α), P g := fun _ h => nomatch h
theorem all_cons {α : Type} {P : α → Prop} {a : α} {l : List α} (h : P a) (t : ∀ g ∈ l, P g) : ∀ g ∈ a :: l, P g := fun g hg => by
  rcases List.mem_cons.mp hg with e | hg
  · subst e; exact h
  · exact t g hg
/-- what Fns tells of one -/
def HasF (P : Program) (w : World) (K : PySem.W.Frag) (mg : Str → Option Value) (base : Heap) (k : Nat) (g : Fn) : Prop := ∃ f fd ps, FnOk P w K mg base (L2N.CX P w) k f fd ps (spOf K g.n g.con) ∧ mg g.name = some (.ref f) ∧ PySem.W.keepIn K (.ref f) = true ∧ Binds K fd ps []
def HasT (P : Program) (w : World) (K : PySem.W.Frag) (mg : Str → Option Value) (base : Heap) (k : Nat) (g : Cl) : Prop := ∃ f fd ps, Cls K g.cls ∧ Meth K g.cls g.name f ∧ FnOk P w K mg base (L2N.CX P w) k f fd ps (spOf K g.n g.con) ∧ Binds K fd ps []
def HasM (P : Program) (w : World) (K : PySem.W.Frag) (mg : Str → Option Value) (base : Heap) (k : Nat) (g : Cl) : Prop := ∃ i f fd ps, i + 1 ≤ k ∧ Mk K g.cls f ∧ FnOk P w K mg base (L2N.CX P w) i f fd ps (spOf K g.n g.con) ∧ mg g.name = some (.ref g.cls) ∧ Binds K fd ps []
def HasX (P : Program) (w : World) (K : PySem.W.Frag) (mg : Str → Option Value) (base : Heap) (k : Nat) (g : Xc) : Prop := ∃ i f fd ps, i + 1 ≤ k ∧ OexC K g.cls ∧ PySem.W.findIn K (.ref g.cls) "__init__" = some (some (.ref f)) ∧ PySem.W.typeIn K (.ref f) = some (.type "function") ∧
    FnOk P w K mg base (L2N.CX P w) i f fd ps (spOf K (g.n + 1) (xcon g)) ∧ mg g.name = some (.ref g.cls) ∧ Binds K fd ps []
def HasK (P : Program) (w : World) (K : PySem.W.Frag) (mg : Str → Option Value) (base : Heap) (k : Nat) (g : Kc) : Prop := ∃ i f fd ps gf gV, i + 1 ≤ k ∧ Mk K g.cls f ∧ FnOk P w K mg base (L2N.CX P w) i f fd ps (spOf K g.n g.con) ∧ mg g.name = some (.ref g.cls) ∧ KBn K fd ps 1 g.ks gf gV ∧
    ∀ F x zs ds, ds.length = g.ks.length → RepL K F zs ds → RepL K F (gV [.ref x] zs) (.ref x :: g.arr ds) ∧ (.ref x :: g.arr ds : List D).length = g.n
theorem HasF.up {g : Fn} (h : HasF P w K mg base j g) (hk : j ≤ k := by decide) : HasF P w K mg base k g :=
  let ⟨f, fd, ps, F, a, b, c⟩ := h
  ⟨f, fd, ps, F.mono hk, a, b, c⟩
theorem HasT.up {g : Cl} (h : HasT P w K mg base j g) (hk : j ≤ k := by decide) : HasT P w K mg base k g :=
  let ⟨f, fd, ps, a, b, F, c⟩ := h
  ⟨f, fd, ps, a, b, F.mono hk, c⟩
theorem HasM.up {g : Cl} (h : HasM P w K mg base j g) (hk : j ≤ k := by decide) : HasM P w K mg base k g :=
  let ⟨i, f, fd, ps, l, r⟩ := h
  ⟨i, f, fd, ps, Nat.le_trans l hk, r⟩
theorem HasX.up {g : Xc} (h : HasX P w K mg base j g) (hk : j ≤ k := by decide) : HasX P w K mg base k g :=
  let ⟨i, f, fd, ps, l, r⟩ := h
  ⟨i, f, fd, ps, Nat.le_trans l hk, r⟩
theorem HasK.up {g : Kc} (h : HasK P w K mg base j g) (hk : j ≤ k := by decide) : HasK P w K mg base k g :=
  let ⟨i, f, fd, ps, gf, gV, l, r⟩ := h
  ⟨i, f, fd, ps, gf, gV, Nat.le_trans l hk, r⟩
/-- the def keeps its promise -/
theorem DefK.ok {x qual : Str} {st : Stmt} {f : Addr} {N ps : List Str} {Γ : Gam} {bis : List Str} {b : Ss} {con : Con} {n : Nat} {c0 : SC} (D : DefK K x qual st ps f) (sc : FnScope N ps (defScope st)) (hn : n = ps.length)
    (hc : ∀ ds M Q X, con ds M Q X → vSs Γ b (endsOf Q X) (startD N.length ds) M) (htb : Γ.tb = none)
    (hc0 : mkSC N (defScope st) Γ bis = c0) (hb : isSs c0 b (defBody st) = true) (hG : Fns P w K mg base k Γ) (hbi : ∀ x ∈ bis, mg x = none) : ∃ fd, FnOk P w K mg base (L2N.CX P w) (k + 1) f fd ps (spOf K n con) ∧ Binds K fd ps [] := by
  obtain ⟨⟨fd, cdv, F, B⟩, kp⟩ := D
  exact ⟨fd, def_okC F sc hn (fun T hT => by rw [htb] at hT; cases hT) hc0 hb hG hbi fun ds M Q X _ h => hc ds M Q X h, B⟩
/-- .. with its table -/
theorem DefK.okT {x qual : Str} {st : Stmt} {N ps : List Str} {Γ : Gam} {bis : List Str} {b : Ss} {con : Con} {n : Nat} {c0 : SC} {p : He.Defn} {T : Addr} (D : DefK K x qual st ps (He.fAd K p)) (sc : FnScope N ps (defScope st)) (hn : n = ps.length)
    (hc : ∀ ds M Q X, con ds M Q X → vSs Γ b (endsOf Q X) (startD N.length ds) M)
    (htb : Γ.tb = some T) (hT : (He.cT K p).2 = T) (TB : LamX.TabB base mg (He.cT K p).1 (He.cT K p).2)
    (hc0 : mkSC N (defScope st) Γ bis = c0) (hb : isSs c0 b (defBody st) = true) (hG1 : Fns P w K mg base j Γ) (hG : Fns P w K mg base (j + 1) Γ) (hbi : ∀ x ∈ bis, mg x = none) : ∃ fd, FnOk P w K mg base (L2N.CX P w) (j + 1 + 1) (He.fAd K p) fd ps (spOf K n con) ∧ Binds K fd ps [] := by
  obtain ⟨⟨fd, cdv, F, B⟩, kp⟩ := D
  refine ⟨fd, def_okC F sc hn (fun T' hT' => ?_) hc0 hb hG hbi fun ds M Q X _ h => hc ds M Q X h, B⟩
  rw [htb] at hT'
  obtain rfl := Option.some.inj hT'
  obtain ⟨oc, od, dV, kV, doc, pm, an, ct, osl, e, lk, hcd⟩ := F.ex
  obtain ⟨c, rfl⟩ := He.codeIn_ref hcd
  subst e
  have hcc := He.codeOf_eq (p := p) (c := c) lk rfl
  refine ⟨⟨c, rfl, ?_⟩, j, rfl, hG1⟩
  have e1 : (He.cT K p).1 = c := hcc
  rw [e1, hT] at TB
  exact ⟨TB.code, TB.bm, TB.gP⟩
/-- a def that is never called -/
theorem DefK.fal {x qual : Str} {st : Stmt} {f : Addr} {N ps : List Str} {con : Con} {n : Nat} (D : DefK K x qual st ps f) (sc : FnScope N ps (defScope st)) (hc : ∀ ds M Q X, ¬ con ds M Q X) : ∃ fd, FnOk P w K mg base (L2N.CX P w) (k + 1) f fd ps (spOf K n con) ∧ Binds K fd ps [] := by
  obtain ⟨⟨fd, cdv, F, B⟩, kp⟩ := D
  obtain ⟨oc, od, dV, kV, doc, pm, an, ct, osl, rfl, lk, hcd⟩ := F.ex
  refine ⟨_, fn_of lk hcd sc (fun vs H Q E h => ?_) fun A outer s H vs Q E hr h => ?_, B⟩
  · obtain ⟨F, M, ds, Q', X', s, r, hl, h, _⟩ := h
    exact absurd h (hc _ _ _ _)
  · obtain ⟨F0, M, ds, Q', X', sat, r, hl, h, _⟩ := h
    exact absurd h (hc _ _ _ _)
/-- what Fns tells of one that may be called while an exception is handled -/
def HasH (P : Program) (w : World) (K : PySem.W.Frag) (mg : Str → Option Value) (base : Heap) (k : Nat) (g : Fn) : Prop := ∃ f fd ps, L2H.FnH P w K mg base (L2N.CX P w) k f fd ps (spOf K g.n g.con) ∧ mg g.name = some (.ref f) ∧ PySem.W.keepIn K (.ref f) = true ∧ Binds K fd ps []
theorem HasH.up {g : Fn} (h : HasH P w K mg base j g) (hk : j ≤ k := by decide) : HasH P w K mg base k g :=
  let ⟨f, fd, ps, F, a, b, c⟩ := h
  ⟨f, fd, ps, ⟨F.len, fun A outer s H args us vs Q E p hr => F.run A outer s H args us vs Q E p (hr.mono hk)⟩, a, b, c⟩
theorem DefK.okH {x qual : Str} {st : Stmt} {f : Addr} {N ps : List Str} {Γ : Gam} {bis : List Str} {b : Ss} {con : Con} {n : Nat} {c0 : SC} (D : DefK K x qual st ps f) (sc : FnScope N ps (defScope st)) (hn : n = ps.length)
    (hc : ∀ ds M Q X, con ds M Q X → vSs Γ b (endsOf Q X) (startD N.length ds) M) (hΓ : Γ.fns = [] ∧ Γ.mks = [] ∧ Γ.mts = [] ∧ Γ.kms = [] ∧ Γ.tb = none)
    (hc0 : { mkSC N (defScope st) Γ bis with calm := false, hot := true } = c0) (hb : isSs c0 b (defBody st) = true) (hG : Fns P w K mg base k Γ) (hbi : ∀ x ∈ bis, mg x = none) : ∃ fd, L2H.FnH P w K mg base (L2N.CX P w) (k + 1) f fd ps (spOf K n con) ∧ Binds K fd ps [] := by
  obtain ⟨⟨fd, cdv, F, B⟩, kp⟩ := D
  exact ⟨fd, def_okH F sc hn hΓ hc0 hb hG hbi fun ds M Q X _ h => hc ds M Q X h, B⟩
theorem DefK.falH {x qual : Str} {st : Stmt} {f : Addr} {N ps : List Str} {con : Con} {n : Nat} (D : DefK K x qual st ps f) (sc : FnScope N ps (defScope st)) (hc : ∀ ds M Q X, ¬ con ds M Q X) : ∃ fd, L2H.FnH P w K mg base (L2N.CX P w) (k + 1) f fd ps (spOf K n con) ∧ Binds K fd ps [] := by
  obtain ⟨⟨fd, cdv, F, B⟩, kp⟩ := D
  obtain ⟨oc, od, dV, kV, doc, pm, an, ct, osl, rfl, lk, hcd⟩ := F.ex
  refine ⟨_, L2H.fn_ofH lk hcd sc (fun vs H Q E h => ?_) fun A outer s H vs Q E p _ _ h => ?_, B⟩
  · obtain ⟨F, M, ds, Q', X', s, r, hl, h, _⟩ := h
    exact absurd h (hc _ _ _ _)
  · obtain ⟨F0, M, ds, Q', X', sat, r, hl, h, _⟩ := h
    exact absurd h (hc _ _ _ _)
theorem hasH {x qual : Str} {st : Stmt} {ps : List Str} {f : Addr} {n : Nat} {con : Con} (D : DefK K x qual st ps f) (g : mg x = some (.ref f)) (h : ∃ fd, L2H.FnH P w K mg base (L2N.CX P w) k f fd ps (spOf K n con) ∧ Binds K fd ps []) : HasH P w K mg base k ⟨x, n, con⟩ :=
  let ⟨fd, F, B⟩ := h
  ⟨f, fd, ps, F, g, D.kp, B⟩
theorem hasF {x qual : Str} {st : Stmt} {ps : List Str} {f : Addr} {n : Nat} {con : Con} (D : DefK K x qual st ps f) (g : mg x = some (.ref f)) (h : ∃ fd, FnOk P w K mg base (L2N.CX P w) k f fd ps (spOf K n con) ∧ Binds K fd ps []) : HasF P w K mg base k ⟨x, n, con⟩ :=
  let ⟨fd, F, B⟩ := h
  ⟨f, fd, ps, F, g, D.kp, B⟩
theorem hasT {m : Str} {ps : List Str} {f C : Addr} {n : Nat} {con : Con} (c : Cls K C) (g : Meth K C m f) (h : ∃ fd, FnOk P w K mg base (L2N.CX P w) k f fd ps (spOf K n con) ∧ Binds K fd ps []) : HasT P w K mg base k ⟨m, C, n, con⟩ :=
  let ⟨fd, F, B⟩ := h
  ⟨f, fd, ps, c, g, F, B⟩
theorem hasM {x : Str} {ps : List Str} {f C : Addr} {n : Nat} {con : Con} (m : Mk K C f) (g : mg x = some (.ref C)) (h : ∃ fd, FnOk P w K mg base (L2N.CX P w) k f fd ps (spOf K n con) ∧ Binds K fd ps []) : HasM P w K mg base (k + 1) ⟨x, C, n, con⟩ :=
  let ⟨fd, F, B⟩ := h
  ⟨k, f, fd, ps, Nat.le_refl _, m, F, g, B⟩
theorem hasX {x : Str} {ps : List Str} {f C : Addr} {n : Nat} {fl : List D → Option (List (Str × D))} (o : OexC K C) (i : PySem.W.findIn K (.ref C) "__init__" = some (some (.ref f))) (t : PySem.W.typeIn K (.ref f) = some (.type "function")) (g : mg x = some (.ref C)) (h : ∃ fd, FnOk P w K mg base (L2N.CX P w) k f fd ps (spOf K (n + 1) (xcon ⟨x, C, n, fl⟩)) ∧ Binds K fd ps []) : HasX P w K mg base (k + 1) ⟨x, C, n, fl⟩ :=
  let ⟨fd, F, B⟩ := h
  ⟨k, f, fd, ps, Nat.le_refl _, o, i, t, F, g, B⟩
end
/-- what walk_ofTs gives is what all(..) asks; the tables as things that may change -/
def tabsM (ts : List Addr) : Mo := fun a => if a ∈ ts then some .tbl else none
theorem tabsM_at {ts : List Addr} {a : Addr} (h : a ∈ ts) : tabsM ts a = some .tbl := if_pos h
theorem tabs_sat {K : PySem.W.Frag} {H : Hp} {ts : List Addr} (h : ∀ t ∈ ts, H t = some (.tbl #[])) : Sat K (fun b => if b ∈ ts then none else H b) H (tabsM ts) where
  ex := fun b o e => by
    by_cases z : b ∈ ts
    · have e' : (none : Option HO) = some o := (if_pos z).symm.trans e
      cases e'
    · exact (if_neg z).symm.trans e
  m := fun b mo e => by
    by_cases z : b ∈ ts
    · have e' : some MO.tbl = some mo := (if_pos z).symm.trans e
      cases e'
      exact ⟨if_pos z, _, h b z, #[], rfl, True.intro⟩
    · have e' : none = some mo := (if_neg z).symm.trans e
      cases e'
theorem cx_false {P : Program} {w : World} {outer : List Env} {H : Hp} {s : Shared} {u : Value} {s' : Shared} (h : L2N.CX P w outer H s (fun _ _ _ => False) u s') : False := by
  obtain ⟨a, B, H', cls, d, _, _, _, _, _, _, _, h⟩ := h
  exact h
end Vp
namespace K85
open PySem PySem.Spec PyProof.Rows L2 Vp
/-- comment_end: slots 0:text 1:at 2:found; callees none; builtins len -/
def b_comment_end_1 : Ss := .cons (.ret (.ite (.cmp .Lt (.var 2) (.cint 0)) (.bi .len (.cons (.var 0) .nil)) (.var 2))) .nil
def b_comment_end : Ss := .cons (.asg (.nm 2) (.find3 (.var 0) (.cstr "\n") (.var 1))) b_comment_end_1
abbrev N_comment_end : List Str := ["text", "at", "found"]
abbrev u_comment_end : SC → SC := fun c => { c with cs := [], mks := [], mts := [], kms := [], xcs := [], pes := [], tb := false }
abbrev f_comment_end : List Str := []
abbrev z_comment_end : List Str := ["len"]
/-- word_end: slots 0:text 1:at; callees none; builtins len -/
def b_word_end_1 : Ss := .cons (.aug 1 .Add (.cint 1)) .nil
def b_word_end_2 : Ss := .cons (.ret (.var 1)) .nil
def b_word_end : Ss := .cons (.while (.and (.cmp .Lt (.var 1) (.bi .len (.cons (.var 0) .nil))) (.isin false (.ix (.var 0) (.var 1)) (.glob 0))) b_word_end_1) b_word_end_2
abbrev N_word_end : List Str := ["text", "at"]
abbrev u_word_end : SC → SC := fun c => { c with cs := ["WORD_CHARACTERS"], mks := [], mts := [], kms := [], xcs := [], pes := [], tb := false }
abbrev f_word_end : List Str := []
abbrev z_word_end : List Str := ["len"]
/-- scan: slots 0:text 1:tokens 2:line 3:line_begin 4:at 5:letter 6:column 7:behind; callees comment_end word_end; builtins len -/
def b_scan_1 : Ss := .cons (.asg (.nm 3) (.var 7)) .nil
def b_scan_2 : Ss := .cons (.aug 2 .Add (.cint 1)) b_scan_1
def b_scan_3 : Ss := .cons (.asg (.nm 7) (.call 0 (.cons (.var 0) (.cons (.var 4) .nil)))) .nil
def b_scan_4 : Ss := .cons (.app (.var 1) (.tup (.cons (.var 5) (.cons (.var 2) (.cons (.var 6) .nil))))) .nil
def b_scan_5 : Ss := .cons (.rais 0 (.cons (.var 2) (.cons (.var 6) (.cons (.cstr "no such character") .nil)))) .nil
def b_scan_6 : Ss := .cons (.app (.var 1) (.tup (.cons (.sl (.var 0) (.some (.var 4)) (.some (.var 7))) (.cons (.var 2) (.cons (.var 6) .nil))))) .nil
def b_scan_7 : Ss := .cons (.ifs (.cmp .Eq (.var 7) (.var 4)) b_scan_5 .nil) b_scan_6
def b_scan_8 : Ss := .cons (.asg (.nm 7) (.call 1 (.cons (.var 0) (.cons (.var 4) .nil)))) b_scan_7
def b_scan_9 : Ss := .cons (.ifs (.isin true (.var 5) (.cstr " \t")) b_scan_8 .nil) .nil
def b_scan_10 : Ss := .cons (.ifs (.isin false (.var 5) (.cstr "()")) b_scan_4 b_scan_9) .nil
def b_scan_11 : Ss := .cons (.ifs (.cmp .Eq (.var 5) (.cstr ";")) b_scan_3 b_scan_10) .nil
def b_scan_12 : Ss := .cons (.asg (.nm 4) (.var 7)) .nil
def b_scan_13 : Ss := .cons (.ifs (.cmp .Eq (.var 5) (.cstr "\n")) b_scan_2 b_scan_11) b_scan_12
def b_scan_14 : Ss := .cons (.asg (.nm 7) (.bin .Add (.var 4) (.cint 1))) b_scan_13
def b_scan_15 : Ss := .cons (.asg (.nm 6) (.bin .Add (.bin .Sub (.var 4) (.var 3)) (.cint 1))) b_scan_14
def b_scan_16 : Ss := .cons (.asg (.nm 5) (.ix (.var 0) (.var 4))) b_scan_15
def b_scan_17 : Ss := .cons (.ret (.var 1)) .nil
def b_scan_18 : Ss := .frz 1 b_scan_17
def b_scan_19 : Ss := .cons (.while (.cmp .Lt (.var 4) (.bi .len (.cons (.var 0) .nil))) b_scan_16) b_scan_18
def b_scan_20 : Ss := .cons (.asg (.nm 4) (.cint 0)) b_scan_19
def b_scan_21 : Ss := .cons (.asg (.nm 3) (.cint 0)) b_scan_20
def b_scan_22 : Ss := .cons (.asg (.nm 2) (.cint 1)) b_scan_21
def b_scan : Ss := .cons (.asg (.nm 1) (.lst true .nil)) b_scan_22
abbrev N_scan : List Str := ["text", "tokens", "line", "line_begin", "at", "letter", "column", "behind"]
abbrev u_scan : SC → SC := fun c => { c with cs := [], mks := [], mts := [], kms := [], xcs := ["TextError"], pes := [], tb := false }
abbrev f_scan : List Str := ["comment_end", "word_end"]
abbrev z_scan : List Str := ["len"]
/-- end_of: slots 0:text; callees none; builtins len -/
def b_end_of : Ss := .cons (.ret (.tup (.cons (.bin .Add (.cint 1) (.tx1 true (.var 0) (.cstr "\n"))) (.cons (.bin .Sub (.bi .len (.cons (.var 0) .nil)) (.tx1 false (.var 0) (.cstr "\n"))) .nil)))) .nil
abbrev N_end_of : List Str := ["text"]
abbrev u_end_of : SC → SC := fun c => { c with cs := [], mks := [], mts := [], kms := [], xcs := [], pes := [], tb := false }
abbrev f_end_of : List Str := []
abbrev z_end_of : List Str := ["len"]
/-- _law_stream: slots 0:script; callees none; builtins list -/
abbrev N_law_stream : List Str := ["script"]
abbrev u_law_stream : SC → SC := fun c => { c with cs := [], mks := [], mts := [], kms := [], xcs := [], pes := [], tb := false }
abbrev f_law_stream : List Str := []
abbrev z_law_stream : List Str := ["list"]
/-- _law_next: slots 0:stream 1:many 2:k 3:cell 4:digit; callees none; builtins abs int len -/
abbrev N_law_next : List Str := ["stream", "many", "k", "cell", "digit"]
abbrev u_law_next : SC → SC := fun c => { c with cs := [], mks := [], mts := [], kms := [], xcs := [], pes := [], tb := false }
abbrev f_law_next : List Str := []
abbrev z_law_next : List Str := ["abs", "int", "len"]
/-- _law_is_integer: slots 0:actual; callees none; builtins bool int isinstance -/
def b_law_is_integer : Ss := .cons (.ret (.and (.bi .isinst (.cons (.var 0) (.cons (.cty "int") .nil))) (.not (.bi .isinst (.cons (.var 0) (.cons (.cty "bool") .nil)))))) .nil
abbrev N_law_is_integer : List Str := ["actual"]
abbrev u_law_is_integer : SC → SC := fun c => { c with cs := [], mks := [], mts := [], kms := [], xcs := [], pes := [], tb := false }
abbrev f_law_is_integer : List Str := []
abbrev z_law_is_integer : List Str := ["bool", "int", "isinstance"]
/-- _law_equal: slots 0:actual 1:due 2:at; callees _law_is_integer _law_equal; builtins all bool int isinstance len list range str tuple -/
def b_law_equal_1 : Ss := .cons (.ret (.cmp .Is (.var 0) .cnon)) .nil
def b_law_equal_2 : Ss := .cons (.ret (.and (.bi .isinst (.cons (.var 0) (.cons (.cty "bool") .nil))) (.cmp .Eq (.var 0) (.var 1)))) .nil
def b_law_equal_3 : Ss := .cons (.ret (.and (.call 0 (.cons (.var 0) .nil)) (.cmp .Eq (.var 0) (.var 1)))) .nil
def b_law_equal_4 : Ss := .cons (.ret (.and (.bi .isinst (.cons (.var 0) (.cons (.cty "str") .nil))) (.cmp .Eq (.var 0) (.var 1)))) .nil
def b_law_equal_5 : Ss := .cons (.ret (.cbl false)) .nil
def b_law_equal_6 : Ss := .cons (.ret (.cbl false)) .nil
def b_law_equal_7 : Ss := .cons (.ret (.cbl false)) .nil
def b_law_equal_8 : Ss := .cons (.ret (.bi .all (.cons (.comp false (.call 1 (.cons (.ix (.var 0) (.var 2)) (.cons (.ix (.var 1) (.var 2)) .nil))) (.nm 2) (.range1 (.bi .len (.cons (.var 1) .nil))) .none) .nil))) .nil
def b_law_equal_9 : Ss := .cons (.ifs (.cmp .NotEq (.bi .len (.cons (.var 0) .nil)) (.bi .len (.cons (.var 1) .nil))) b_law_equal_7 .nil) b_law_equal_8
def b_law_equal_10 : Ss := .cons (.ifs (.and (.tr (.bi .isinst (.cons (.var 1) (.cons (.cty "list") .nil)))) (.not (.tr (.bi .isinst (.cons (.var 0) (.cons (.cty "list") .nil)))))) b_law_equal_6 .nil) b_law_equal_9
def b_law_equal_11 : Ss := .cons (.ifs (.and (.tr (.bi .isinst (.cons (.var 1) (.cons (.cty "tuple") .nil)))) (.not (.tr (.bi .isinst (.cons (.var 0) (.cons (.cty "tuple") .nil)))))) b_law_equal_5 .nil) b_law_equal_10
def b_law_equal_12 : Ss := .cons (.ifs (.tr (.bi .isinst (.cons (.var 1) (.cons (.cty "str") .nil)))) b_law_equal_4 .nil) b_law_equal_11
def b_law_equal_13 : Ss := .cons (.ifs (.tr (.bi .isinst (.cons (.var 1) (.cons (.cty "int") .nil)))) b_law_equal_3 .nil) b_law_equal_12
def b_law_equal_14 : Ss := .cons (.ifs (.tr (.bi .isinst (.cons (.var 1) (.cons (.cty "bool") .nil)))) b_law_equal_2 .nil) b_law_equal_13
def b_law_equal : Ss := .cons (.ifs (.cmp .Is (.var 1) .cnon) b_law_equal_1 .nil) b_law_equal_14
abbrev N_law_equal : List Str := ["actual", "due", "at"]
abbrev u_law_equal : SC → SC := fun c => { c with cs := [], mks := [], mts := [], kms := [], xcs := [], pes := [], tb := false }
abbrev f_law_equal : List Str := ["_law_is_integer", "_law_equal"]
abbrev z_law_equal : List Str := ["all", "bool", "int", "isinstance", "len", "list", "range", "str", "tuple"]
/-- _law_gap: slots 0:stream 1:tight 2:gaps; callees _law_next; builtins none -/
def b_law_gap_1 : Ss := .cons (.ret (.ix (.var 2) (.call 0 (.cons (.var 0) (.cons (.cint 9) .nil))))) .nil
def b_law_gap_2 : Ss := .cons (.ret (.ix (.var 2) (.bin .Add (.cint 1) (.call 0 (.cons (.var 0) (.cons (.cint 8) .nil)))))) .nil
def b_law_gap_3 : Ss := .cons (.ifs (.tr (.var 1)) b_law_gap_1 .nil) b_law_gap_2
def b_law_gap : Ss := .cons (.asg (.nm 2) (.lst false (.cons (.cstr "") (.cons (.cstr " ") (.cons (.cstr "\n") (.cons (.cstr "\t") (.cons (.cstr "  ") (.cons (.cstr "\n\n ") (.cons (.cstr " ; a (remark) ! ~ ;\n") (.cons (.cstr ";\n") (.cons (.cstr " ;)\n\t") .nil))))))))))) b_law_gap_3
abbrev N_law_gap : List Str := ["stream", "tight", "gaps"]
abbrev u_law_gap : SC → SC := fun c => { c with cs := [], mks := [], mts := [], kms := [], xcs := [], pes := [], tb := false }
abbrev f_law_gap : List Str := ["_law_next"]
abbrev z_law_gap : List Str := []
/-- _law_laid: slots 0:stream 1:words 2:text 3:places 4:k 5:word 6:tight; callees _law_gap _law_next; builtins enumerate len -/
def b_law_laid_1 : Ss := .cons (.asg (.nm 2) (.bin .Add (.var 2) (.call 0 (.cons (.var 0) (.cons (.var 6) .nil))))) .nil
def b_law_laid_2 : Ss := .cons (.asg (.nm 6) (.or (.cmp .Eq (.bin .Add (.var 4) (.cint 1)) (.bi .len (.cons (.var 1) .nil))) (.or (.isin false (.var 5) (.cstr "()")) (.isin false (.ix (.var 1) (.bin .Add (.var 4) (.cint 1))) (.cstr "()"))))) b_law_laid_1
def b_law_laid_3 : Ss := .cons (.asg (.nm 2) (.bin .Add (.var 2) (.var 5))) b_law_laid_2
def b_law_laid_4 : Ss := .cons (.app (.var 3) (.tup (.cons (.bin .Add (.cint 1) (.tx1 true (.var 2) (.cstr "\n"))) (.cons (.bin .Sub (.bi .len (.cons (.var 2) .nil)) (.tx1 false (.var 2) (.cstr "\n"))) .nil)))) b_law_laid_3
def b_law_laid_5 : Ss := .cons (.asg (.nm 2) (.bin .Add (.var 2) (.cstr "; the end (of it"))) .nil
def b_law_laid_6 : Ss := .cons (.ret (.tup (.cons (.var 2) (.cons (.var 3) .nil)))) .nil
def b_law_laid_7 : Ss := .frz 3 b_law_laid_6
def b_law_laid_8 : Ss := .cons (.ifs (.cmp .Eq (.call 1 (.cons (.var 0) (.cons (.cint 4) .nil))) (.cint 1)) b_law_laid_5 .nil) b_law_laid_7
def b_law_laid_9 : Ss := .cons (.for (.tup (.cons (.nm 4) (.cons (.nm 5) .nil))) (.enum (.var 1)) b_law_laid_4) b_law_laid_8
def b_law_laid_10 : Ss := .cons (.asg (.nm 3) (.lst true .nil)) b_law_laid_9
def b_law_laid : Ss := .cons (.asg (.nm 2) (.call 0 (.cons (.var 0) (.cons (.cbl true) .nil)))) b_law_laid_10
abbrev N_law_laid : List Str := ["stream", "words", "text", "places", "k", "word", "tight"]
abbrev u_law_laid : SC → SC := fun c => { c with cs := [], mks := [], mts := [], kms := [], xcs := [], pes := [], tb := false }
abbrev f_law_laid : List Str := ["_law_gap", "_law_next"]
abbrev z_law_laid : List Str := ["enumerate", "len"]
/-- _law_words: slots 0:stream 1:chars 2:words 3:k 4:pick 5:at; callees _law_next; builtins len range -/
def b_law_words_1 : Ss := .cons (.app (.var 2) (.ix (.cstr "()") (.var 4))) .nil
def b_law_words_2 : Ss := .cons (.app (.var 2) (.join (.cstr "") (.comp false (.ix (.var 1) (.call 0 (.cons (.var 0) (.cons (.bi .len (.cons (.var 1) .nil)) .nil)))) (.nm 5) (.range1 (.bin .Add (.cint 1) (.call 0 (.cons (.var 0) (.cons (.cint 6) .nil))))) .none))) .nil
def b_law_words_3 : Ss := .cons (.ifs (.cmp .Lt (.var 4) (.cint 2)) b_law_words_1 b_law_words_2) .nil
def b_law_words_4 : Ss := .cons (.asg (.nm 4) (.call 0 (.cons (.var 0) (.cons (.cint 4) .nil)))) b_law_words_3
def b_law_words_5 : Ss := .cons (.ret (.var 2)) .nil
def b_law_words_6 : Ss := .frz 2 b_law_words_5
def b_law_words_7 : Ss := .cons (.for (.nm 3) (.range1 (.call 0 (.cons (.var 0) (.cons (.cint 21) .nil)))) b_law_words_4) b_law_words_6
def b_law_words_8 : Ss := .cons (.asg (.nm 2) (.lst true .nil)) b_law_words_7
def b_law_words : Ss := .cons (.asg (.nm 1) (.cstr "abcdefghijklmnopqrstuvwxyzABCDEFGHIJKLMNOPQRSTUVWXYZ0123456789_?-+*<>=")) b_law_words_8
abbrev N_law_words : List Str := ["stream", "chars", "words", "k", "pick", "at"]
abbrev u_law_words : SC → SC := fun c => { c with cs := [], mks := [], mts := [], kms := [], xcs := [], pes := [], tb := false }
abbrev f_law_words : List Str := ["_law_next"]
abbrev z_law_words : List Str := ["len", "range"]
/-- _law_refused: slots 0:text 1:due 2:problem; callees scan _law_equal; builtins none -/
def b_law_refused_1 : Ss := .cons (.expr (.call 0 (.cons (.var 0) .nil))) .nil
def b_law_refused_2 : Ss := .cons (.ret (.call 1 (.cons (.lst false (.cons (.xfld (.var 2) "line") (.cons (.xfld (.var 2) "column") (.cons (.xfld (.var 2) "words") .nil)))) (.cons (.lst false (.cons (.ix (.var 1) (.cint 0)) (.cons (.ix (.var 1) (.cint 1)) (.cons (.cstr "no such character") .nil)))) .nil)))) .nil
def b_law_refused_3 : Ss := .cons (.ret (.cbl false)) .nil
def b_law_refused : Ss := .cons (.tryAs b_law_refused_1 0 2 b_law_refused_2) b_law_refused_3
abbrev N_law_refused : List Str := ["text", "due", "problem"]
abbrev u_law_refused : SC → SC := fun c => { c with cs := [], mks := [], mts := [], kms := [], xcs := ["TextError"], pes := [], tb := false }
abbrev f_law_refused : List Str := ["scan", "_law_equal"]
abbrev z_law_refused : List Str := []
/-- law: slots 0:script 1:stream 2:words 3:text 4:places 5:due 6:k 7:lines 8:strange 9:into 10:at 11:line 12:behind; callees _law_stream _law_words _law_laid _law_equal scan end_of _law_next _law_refused; builtins len range sum -/
def b_law_1 : Ss := .cons (.ret (.cbl false)) .nil
def b_law_2 : Ss := .cons (.ret (.cbl false)) .nil
def b_law_3 : Ss := .cons (.asg (.nm 12) (.bin .Add (.var 12) (.cstr "\n!"))) .nil
def b_law_4 : Ss := .cons (.ret (.call 7 (.cons (.var 12) (.cons (.tup (.cons (.ix (.ix (.var 4) (.var 6)) (.cint 0)) (.cons (.bin .Add (.ix (.ix (.var 4) (.var 6)) (.cint 1)) (.var 9)) .nil))) .nil)))) .nil
def b_law_5 : Ss := .cons (.ifs (.cmp .Eq (.call 6 (.cons (.var 1) (.cons (.cint 2) .nil))) (.cint 1)) b_law_3 .nil) b_law_4
def b_law_6 : Ss := .cons (.asg (.nm 12) (.bin .Add (.bin .Add (.sl (.var 3) .none (.some (.var 10))) (.ix (.var 8) (.call 6 (.cons (.var 1) (.cons (.bi .len (.cons (.var 8) .nil)) .nil))))) (.sl (.var 3) (.some (.var 10)) .none))) b_law_5
def b_law_7 : Ss := .cons (.asg (.nm 10) (.bin .Add (.bin .Sub (.bin .Add (.bi .sum (.cons (.comp false (.bin .Add (.bi .len (.cons (.var 11) .nil)) (.cint 1)) (.nm 11) (.seq (.sl (.var 7) .none (.some (.bin .Sub (.ix (.ix (.var 4) (.var 6)) (.cint 0)) (.cint 1))))) .none) .nil)) (.ix (.ix (.var 4) (.var 6)) (.cint 1))) (.cint 1)) (.var 9))) b_law_6
def b_law_8 : Ss := .cons (.asg (.nm 9) (.call 6 (.cons (.var 1) (.cons (.bi .len (.cons (.ix (.var 2) (.var 6)) .nil)) .nil)))) b_law_7
def b_law_9 : Ss := .cons (.asg (.nm 6) (.call 6 (.cons (.var 1) (.cons (.bi .len (.cons (.var 2) .nil)) .nil)))) b_law_8
def b_law_10 : Ss := .cons (.asg (.nm 8) (.cstr "!\"#$&',./:\x40[]^{|}~\\")) b_law_9
def b_law_11 : Ss := .cons (.ret (.cbl true)) .nil
def b_law_12 : Ss := .cons (.ifs (.and (.tr (.var 2)) (.cmp .Eq (.call 6 (.cons (.var 1) (.cons (.cint 3) .nil))) (.cint 1))) b_law_10 .nil) b_law_11
def b_law_13 : Ss := .cons (.ifs (.not (.tr (.call 3 (.cons (.call 5 (.cons (.var 3) .nil)) (.cons (.tup (.cons (.bi .len (.cons (.var 7) .nil)) (.cons (.bin .Add (.bi .len (.cons (.ix (.var 7) (.neg (.cint 1))) .nil)) (.cint 1)) .nil))) .nil))))) b_law_2 .nil) b_law_12
def b_law_14 : Ss := .cons (.asg (.nm 7) (.split (.var 3) (.cstr "\n"))) b_law_13
def b_law_15 : Ss := .cons (.ifs (.or (.not (.tr (.call 3 (.cons (.call 4 (.cons (.var 3) .nil)) (.cons (.var 5) .nil))))) (.not (.tr (.call 3 (.cons (.call 4 (.cons (.var 3) .nil)) (.cons (.var 5) .nil)))))) b_law_1 .nil) b_law_14
def b_law_16 : Ss := .cons (.setC 5 (.comp false (.tup (.cons (.ix (.var 2) (.var 6)) (.cons (.ix (.ix (.var 4) (.var 6)) (.cint 0)) (.cons (.ix (.ix (.var 4) (.var 6)) (.cint 1)) .nil)))) (.nm 6) (.range1 (.bi .len (.cons (.var 2) .nil))) .none)) b_law_15
def b_law_17 : Ss := .cons (.asg (.tup (.cons (.nm 3) (.cons (.nm 4) .nil))) (.call 2 (.cons (.var 1) (.cons (.var 2) .nil)))) b_law_16
def b_law_18 : Ss := .cons (.asg (.nm 2) (.call 1 (.cons (.var 1) .nil))) b_law_17
def b_law : Ss := .cons (.asg (.nm 1) (.call 0 (.cons (.var 0) .nil))) b_law_18
abbrev N_law : List Str := ["script", "stream", "words", "text", "places", "due", "k", "lines", "strange", "into", "at", "line", "behind"]
abbrev u_law : SC → SC := fun c => { c with cs := [], mks := [], mts := [], kms := [], xcs := [], pes := [], tb := false }
abbrev f_law : List Str := ["_law_stream", "_law_words", "_law_laid", "_law_equal", "scan", "end_of", "_law_next", "_law_refused"]
abbrev z_law : List Str := ["len", "range", "sum"]
/-- TextError.__init__: slots 0:self 1:line 2:column 3:words; callees none; builtins none -/
def b_TextError___init___1 : Ss := .cons (.setX (.var 0) "words" (.var 3)) .nil
def b_TextError___init___2 : Ss := .cons (.setX (.var 0) "column" (.var 2)) b_TextError___init___1
def b_TextError___init___3 : Ss := .cons (.setX (.var 0) "line" (.var 1)) b_TextError___init___2
def b_TextError___init__ : Ss := .cons (.pei (.var 0) (.f (.var 1) (.c ":" (.f (.var 2) (.c ": " (.f (.var 3) .nil)))))) b_TextError___init___3
abbrev N_TextError___init__ : List Str := ["self", "line", "column", "words"]
abbrev u_TextError___init__ : SC → SC := fun c => { c with cs := [], mks := [], mts := [], kms := [], xcs := [], pes := ["PlanError"], tb := false }
abbrev f_TextError___init__ : List Str := []
abbrev z_TextError___init__ : List Str := []
end K85
namespace K85
open PySem PySem.Spec PyProof.Rows
/-! ### lines and columns -/
abbrev tx (s : Str) : List Nat := s.cps.toList
theorem tx_ext {x y : Str} (h : tx x = tx y) : x = y := by
  cases x; cases y
  simp only [tx] at h
  congr
  exact Array.toList_inj.mp h
theorem tx_len (x : Str) : x.length = (tx x).length := by simp [Str.length]
theorem tx_app (x y : Str) : tx (x ++ y) = tx x ++ tx y := by simp [tx, PySem.Str.cps_append]
def lcS (s : Int × Int) (x : Nat) : Int × Int := if x = 10 then (s.1 + 1, 1) else (s.1, s.2 + 1)
def lcF (s : Int × Int) (t : List Nat) : Int × Int := t.foldl lcS s
theorem lcF_nil (s : Int × Int) : lcF s [] = s := rfl
theorem lcF_cons (s : Int × Int) (x : Nat) (t : List Nat) : lcF s (x :: t) = lcF (lcS s x) t := rfl
theorem lcF_app (s : Int × Int) (a b : List Nat) : lcF s (a ++ b) = lcF (lcF s a) b := List.foldl_append ..
theorem lcF_free : ∀ (t : List Nat) (s : Int × Int), 10 ∉ t → lcF s t = (s.1, s.2 + t.length)
  | [], s, _ => by rw [lcF_nil]; simp
  | x :: t, s, h => by
    have hx : x ≠ 10 := fun e => h (by rw [e]; exact List.mem_cons_self ..)
    rw [lcF_cons, lcF_free t _ (fun hm => h (List.mem_cons_of_mem _ hm))]
    unfold lcS
    rw [if_neg hx]
    simp; omega
theorem lcF_line : ∀ (t : List Nat) (s : Int × Int), (lcF s t).1 = s.1 + cnt 10 t
  | [], s => by rw [lcF_nil, cnt_nil]; omega
  | x :: t, s => by
    rw [lcF_cons, lcF_line t, cnt_cons]
    unfold lcS
    by_cases h : x = 10
    · rw [if_pos h, if_pos h]; simp; omega
    · rw [if_neg h, if_neg h]; simp
theorem lcF_bound : ∀ (t : List Nat) (s : Int × Int), 1 ≤ s.1 → 1 ≤ s.2 → 1 ≤ (lcF s t).1 ∧ 1 ≤ (lcF s t).2 ∧ (lcF s t).1 ≤ s.1 + t.length ∧ (lcF s t).2 ≤ s.2 + t.length
  | [], s, h1, h2 => by rw [lcF_nil]; simp; omega
  | x :: t, s, h1, h2 => by
    rw [lcF_cons]
    have h := lcF_bound t (lcS s x) (by unfold lcS; split <;> simp <;> omega) (by unfold lcS; split <;> simp <;> omega)
    have e1 : (lcS s x).1 ≤ s.1 + 1 := by unfold lcS; split <;> simp <;> omega
    have e2 : (lcS s x).2 ≤ s.2 + 1 := by unfold lcS; split <;> simp <;> omega
    simp only [List.length_cons]
    omega
abbrev NL : Str := ⟨#[10]⟩
theorem place_line (x : Str) : 1 + Txt.count x NL = (lcF (1, 1) (tx x)).1 := by
  rw [count_cnt, lcF_line]
theorem place_col (x : Str) : (x.length : Int) - Txt.rfind x NL = (lcF (1, 1) (tx x)).2 := by
  have key := StrLaws.last_spec x NL
  have one := fun i => StrLaws.subAt_one x 10 i
  have hl := tx_len x
  unfold Txt.rfind
  rcases key with ⟨e, hn⟩ | ⟨i, e, hA, hn⟩
  · rw [e]
    have free : 10 ∉ tx x := fun hm => by
      obtain ⟨i, hi⟩ := List.getElem?_of_mem hm
      exact hn i ((one i).mpr hi)
    rw [lcF_free _ _ free]
    show (x.length : Int) - (-1) = 1 + ((tx x).length : Int)
    omega
  · rw [e]
    have hi : (tx x)[i]? = some 10 := (one i).mp hA
    have hlt : i < (tx x).length := (List.getElem?_eq_some_iff.mp hi).1
    have hsp : tx x = (tx x).take i ++ (10 :: (tx x).drop (i + 1)) := by
      conv => lhs; rw [← List.take_append_drop i (tx x)]
      rw [List.drop_eq_getElem_cons hlt, (List.getElem?_eq_some_iff.mp hi).2]
    have free : 10 ∉ (tx x).drop (i + 1) := fun hm => by
      obtain ⟨j, hj⟩ := List.getElem?_of_mem hm
      rw [List.getElem?_drop] at hj
      exact hn (i + 1 + j) (by omega) ((one _).mpr hj)
    rw [hsp, lcF_app, lcF_cons, lcF_free _ _ free]
    unfold lcS
    rw [if_pos rfl]
    simp only [List.length_drop]
    omega
/-! ### what a text's tokens are -/
abbrev WORD : Str := "abcdefghijklmnopqrstuvwxyzABCDEFGHIJKLMNOPQRSTUVWXYZ0123456789_?-+*<>="
def isW (c : Nat) : Bool := decide (c ∈ tx WORD)
theorem word_sign : ∀ c ∈ tx WORD, c ≠ 10 ∧ c ≠ 59 ∧ c ≠ 40 ∧ c ≠ 41 ∧ c ≠ 32 ∧ c ≠ 9 := by decide +kernel
abbrev IT := Str × Int × Int
/-- a sign that no text may hold outside its remarks -/
def isBad (x : Nat) : Prop := x ≠ 10 ∧ x ≠ 59 ∧ x ≠ 40 ∧ x ≠ 41 ∧ x ≠ 32 ∧ x ≠ 9 ∧ isW x = false
/-- from here on (line, column): these tokens, then the end, or the place of a bad sign -/
inductive Sc : List Nat → Int → Int → List IT → Option (Int × Int) → Prop
  | nil (l c : Int) : Sc [] l c [] none
  | bad {x : Nat} {r : List Nat} (l c : Int) (hx : isBad x) : Sc (x :: r) l c [] (some (l, c))
  | nl {r : List Nat} {l c : Int} {ts : List IT} {e : Option (Int × Int)} (h : Sc r (l + 1) 1 ts e) : Sc (10 :: r) l c ts e
  | rem {p r : List Nat} {l c : Int} {ts : List IT} {e : Option (Int × Int)} (hp : 10 ∉ p) (hr : r = [] ∨ ∃ r', r = 10 :: r') (h : Sc r l (c + 1 + p.length) ts e) : Sc (59 :: (p ++ r)) l c ts e
  | par {x : Nat} {r : List Nat} {l c : Int} {ts : List IT} {e : Option (Int × Int)} (hx : x = 40 ∨ x = 41) (h : Sc r l (c + 1) ts e) : Sc (x :: r) l c ((⟨#[x]⟩, l, c) :: ts) e
  | gap {x : Nat} {r : List Nat} {l c : Int} {ts : List IT} {e : Option (Int × Int)} (hx : x = 32 ∨ x = 9) (h : Sc r l (c + 1) ts e) : Sc (x :: r) l c ts e
  | word {x : Nat} {w r : List Nat} {l c : Int} {ts : List IT} {e : Option (Int × Int)} (hw : ∀ y ∈ x :: w, isW y = true) (hr : ∀ y r', r = y :: r' → isW y = false) (h : Sc r l (c + (x :: w).length) ts e) : Sc (x :: (w ++ r)) l c ((⟨(x :: w).toArray⟩, l, c) :: ts) e
/-- a text so far: what comes behind it goes on from its end; the last word may go on -/
def Pre (t : List Nat) (m : Bool) (toks : List IT) : Prop := ∀ r ts e, (m = true → ∀ y r', r = y :: r' → isW y = false) → Sc r (lcF (1, 1) t).1 (lcF (1, 1) t).2 ts e → Sc (t ++ r) 1 1 (toks ++ ts) e
def GAPS : List Str := ["", " ", "\n", "\t", "  ", "\n\n ", " ; a (remark) ! ~ ;\n", ";\n", " ;)\n\t"]
theorem gap0' : ∀ g ∈ GAPS, g ≠ "" → (match tx g with | y :: _ => !isW y | [] => false) = true := by decide +kernel
theorem gap0 (g : Str) (hg : g ∈ GAPS) (hn : g ≠ "") : ∃ y r, tx g = y :: r ∧ isW y = false := by
  have h := gap0' g hg hn
  cases e : tx g with
  | nil => rw [e] at h; cases h
  | cons y r => rw [e] at h; exact ⟨y, r, rfl, by simpa using h⟩
/-- a gap holds no token -/
theorem gap_sc {g : Str} (hg : g ∈ GAPS) {r : List Nat} {l c : Int} {ts : List IT} {e : Option (Int × Int)} (h : Sc r (lcF (l, c) (tx g)).1 (lcF (l, c) (tx g)).2 ts e) : Sc (tx g ++ r) l c ts e := by
  have e0 : tx ("" : Str) = [] := by decide +kernel
  have e1 : tx (" " : Str) = [32] := by decide +kernel
  have e2 : tx ("\n" : Str) = [10] := by decide +kernel
  have e3 : tx ("\t" : Str) = [9] := by decide +kernel
  have e4 : tx ("  " : Str) = [32, 32] := by decide +kernel
  have e5 : tx ("\n\n " : Str) = [10, 10, 32] := by decide +kernel
  have e6 : tx (" ; a (remark) ! ~ ;\n" : Str) = 32 :: 59 :: ([32, 97, 32, 40, 114, 101, 109, 97, 114, 107, 41, 32, 33, 32, 126, 32, 59] ++ [10]) := by decide +kernel
  have e7 : tx (";\n" : Str) = 59 :: ([] ++ [10]) := by decide +kernel
  have e8 : tx (" ;)\n\t" : Str) = 32 :: 59 :: ([41] ++ [10, 9]) := by decide +kernel
  simp only [GAPS, List.mem_cons, List.not_mem_nil, or_false] at hg
  rcases hg with rfl | rfl | rfl | rfl | rfl | rfl | rfl | rfl | rfl
  · rw [e0] at h ⊢; exact h
  · rw [e1] at h ⊢; exact .gap (.inl rfl) h
  · rw [e2] at h ⊢; exact .nl h
  · rw [e3] at h ⊢; exact .gap (.inr rfl) h
  · rw [e4] at h ⊢; exact .gap (.inl rfl) (.gap (.inl rfl) h)
  · rw [e5] at h ⊢; exact .nl (.nl (.gap (.inl rfl) h))
  · rw [e6] at h ⊢
    exact .gap (.inl rfl) (.rem (p := [32, 97, 32, 40, 114, 101, 109, 97, 114, 107, 41, 32, 33, 32, 126, 32, 59]) (r := 10 :: r) (by decide) (.inr ⟨_, rfl⟩) (.nl h))
  · rw [e7] at h ⊢
    exact .rem (p := []) (r := 10 :: r) (by decide) (.inr ⟨_, rfl⟩) (.nl h)
  · rw [e8] at h ⊢
    exact .gap (.inl rfl) (.rem (p := [41]) (r := 10 :: 9 :: r) (by decide) (.inr ⟨_, rfl⟩) (.nl (.gap (.inr rfl) h)))
def isPar (w : Str) : Bool := decide (w = "(") || decide (w = ")")
/-- a word that a text may hold -/
def WdOk (w : Str) : Prop := isPar w = true ∨ (tx w ≠ [] ∧ (tx w).length ≤ 6 ∧ (tx w).all isW = true)
theorem par_tx {w : Str} (h : isPar w = true) : tx w = [40] ∨ tx w = [41] := by
  unfold isPar at h
  rw [Bool.or_eq_true, decide_eq_true_eq, decide_eq_true_eq] at h
  rcases h with rfl | rfl
  · exact .inl (by decide +kernel)
  · exact .inr (by decide +kernel)
theorem wds_sp (w : Str) (h : WdOk w) : (isPar w = true ∧ (tx w = [40] ∨ tx w = [41])) ∨ (isPar w = false ∧ (tx w).length ≤ 6 ∧ tx w ≠ [] ∧ (tx w).all isW = true) := by
  rcases h with h | ⟨h1, h2, h3⟩
  · exact .inl ⟨h, par_tx h⟩
  · refine .inr ⟨?_, h2, h1, h3⟩
    cases e : isPar w with
    | false => rfl
    | true =>
      exfalso
      rcases par_tx e with e | e <;> (rw [e] at h3; revert h3; decide +kernel)
theorem wds_free (w : Str) (h : WdOk w) : 10 ∉ tx w := by
  rcases wds_sp w h with ⟨_, h | h⟩ | ⟨_, _, _, h⟩
  · rw [h]; decide
  · rw [h]; decide
  · intro hm
    have := List.all_eq_true.mp h 10 hm
    revert this; decide +kernel
theorem wds_len (w : Str) (h : WdOk w) : w.length ≤ 6 := by
  rw [tx_len]
  rcases wds_sp w h with ⟨_, h | h⟩ | ⟨_, h, _⟩
  · rw [h]; decide
  · rw [h]; decide
  · exact h
theorem epar0 : tx ("()" : Str) = [40, 41] := by decide +kernel
theorem wds_in (w : Str) (h : WdOk w) : (!(Builtin.Str.occurrences "()" w 0 ("()" : Str).length 1).isEmpty) = isPar w := by
  rcases wds_sp w h with ⟨h1, _⟩ | ⟨h1, _, h2, h3⟩
  · rw [h1]
    unfold isPar at h1
    rw [Bool.or_eq_true, decide_eq_true_eq, decide_eq_true_eq] at h1
    rcases h1 with rfl | rfl <;> decide +kernel
  · rw [h1]
    cases e : (!(Builtin.Str.occurrences "()" w 0 ("()" : Str).length 1).isEmpty) with
    | false => rfl
    | true =>
      exfalso
      obtain ⟨i, hi, hs⟩ := (StrLaws.found_iff "()" w).mp e
      rw [StrLaws.subAt_eq, show (Str.ofString "()").cps.toList = [40, 41] from epar0] at hs
      have hs := eq_of_beq hs
      cases ew : tx w with
      | nil => exact h2 ew
      | cons y r =>
        have hy : y ∈ [40, 41] := by
          have : y ∈ tx w := by rw [ew]; exact List.mem_cons_self ..
          rw [show tx w = w.cps.toList from rfl, ← hs] at this
          exact List.mem_of_mem_drop (List.mem_of_mem_take this)
        have h4 := List.all_eq_true.mp h3 y (by rw [ew]; exact List.mem_cons_self ..)
        simp only [List.mem_cons, List.not_mem_nil, or_false] at hy
        rcases hy with rfl | rfl <;> (revert h4; decide +kernel)
theorem Pre.gap {t : List Nat} {m : Bool} {toks : List IT} (p : Pre t m toks) {g : Str} (hg : g ∈ GAPS) : Pre (t ++ tx g) (m && decide (g = "")) toks := by
  intro r ts e hr h
  rw [List.append_assoc]
  rw [lcF_app] at h
  refine p _ _ _ (fun hm y r' e => ?_) (gap_sc hg h)
  by_cases h0 : g = ""
  · subst h0
    rw [show tx ("" : Str) = [] by decide +kernel, List.nil_append] at e
    exact hr (by rw [hm]; rfl) y r' e
  · obtain ⟨y0, r0, e0, hy⟩ := gap0 g hg h0
    rw [e0, List.cons_append] at e
    obtain ⟨rfl, _⟩ := List.cons.inj e
    exact hy
theorem Pre.word {t : List Nat} {m : Bool} {toks : List IT} (p : Pre t m toks) {w : Str} (hw : WdOk w) (hm : m = true → isPar w = true) : Pre (t ++ tx w) (!isPar w) (toks ++ [(w, (lcF (1, 1) t).1, (lcF (1, 1) t).2)]) := by
  intro r ts e hr h
  rw [List.append_assoc, List.append_assoc]
  rw [lcF_app, lcF_free _ _ (wds_free w hw)] at h
  rcases wds_sp w hw with ⟨h1, h2⟩ | ⟨h1, h2, h3, h4⟩
  · obtain ⟨x, ex, hx⟩ : ∃ x, tx w = [x] ∧ (x = 40 ∨ x = 41) := by
      rcases h2 with h2 | h2
      · exact ⟨40, h2, .inl rfl⟩
      · exact ⟨41, h2, .inr rfl⟩
    have ew : w = ⟨#[x]⟩ := tx_ext ex
    refine p _ _ _ (fun _ y r' e => ?_) ?_
    · rw [ex, List.singleton_append] at e
      obtain ⟨rfl, _⟩ := List.cons.inj e
      rcases hx with rfl | rfl <;> decide +kernel
    · rw [ex] at h ⊢
      rw [ew]
      exact .par hx (by simpa using h)
  · have hm0 : m = false := by
      cases m with
      | false => rfl
      | true => rw [hm rfl] at h1; cases h1
    obtain ⟨x, r0, ex⟩ : ∃ x r0, tx w = x :: r0 := by
      cases e : tx w with
      | nil => exact absurd e h3
      | cons x r0 => exact ⟨x, r0, rfl⟩
    have ew : w = ⟨(x :: r0).toArray⟩ := tx_ext (by rw [ex])
    refine p _ _ _ (fun h => by rw [hm0] at h; cases h) ?_
    rw [ex] at h ⊢
    rw [show ([(w, (lcF (1, 1) t).1, (lcF (1, 1) t).2)] ++ ts) = (⟨(x :: r0).toArray⟩, (lcF (1, 1) t).1, (lcF (1, 1) t).2) :: ts by rw [← ew]; rfl]
    refine .word (fun y hy => ?_) (fun y r' e => hr (by rw [h1]; rfl) y r' e) (by simpa using h)
    rw [ex] at h4
    exact List.all_eq_true.mp h4 y hy
theorem Pre.start {g : Str} (hg : g ∈ GAPS) : Pre (tx g) false [] := fun r ts e _ h => by
  rw [List.nil_append]
  exact gap_sc hg (by exact h)
theorem Pre.fin {t : List Nat} {m : Bool} {toks : List IT} (p : Pre t m toks) : Sc t 1 1 toks none := by
  have := p [] [] _ (fun _ y r' e => by cases e) (.nil _ _)
  simpa using this
abbrev ENDS : Str := "; the end (of it"
theorem Pre.fin2 {t : List Nat} {m : Bool} {toks : List IT} (p : Pre t m toks) : Sc (t ++ tx ENDS) 1 1 toks none := by
  have e : tx ENDS = 59 :: ([32, 116, 104, 101, 32, 101, 110, 100, 32, 40, 111, 102, 32, 105, 116] ++ []) := by decide +kernel
  have := p (tx ENDS) [] _ (fun _ y r' h => by rw [e] at h; obtain ⟨rfl, _⟩ := List.cons.inj h; decide +kernel) (by rw [e]; exact .rem (by decide) (.inl rfl) (.nil _ _))
  simpa using this
/-! ### where a sign stands next -/
theorem find3_next {x : Str} {i : Nat} {p r : List Nat} (hi : i ≤ x.length) (e : (tx x).drop i = p ++ r) (hp : 10 ∉ p) (hr : r = [] ∨ ∃ r', r = 10 :: r') : (if Txt.find3 x NL i < 0 then (x.length : Int) else Txt.find3 x NL i) = (i + p.length : Nat) := by
  have hl := tx_len x
  have hlen : x.length = i + (p.length + r.length) := by
    have := congrArg List.length e
    simp only [List.length_drop, List.length_append] at this
    omega
  have at_ : ∀ k, i ≤ k → (StrLaws.At x NL x.length k ↔ (p ++ r)[k - i]? = some 10) := fun k hk => by
    refine (StrLaws.subAt_one x 10 k).trans ?_
    rw [← e, List.getElem?_drop, show i + (k - i) = k by omega]
  have hfree : ∀ k, i ≤ k → k < i + p.length → ¬ StrLaws.At x NL x.length k := fun k h1 h2 h => by
    have h3 := (at_ k h1).mp h
    rw [List.getElem?_append_left (by omega)] at h3
    exact hp (List.mem_of_getElem? h3)
  have hfi : fromIndex x.length (i : Int) = i := by
    unfold fromIndex
    have : ¬ ((i : Int) < 0) := by omega
    rw [if_neg this]
    omega
  unfold Txt.find3
  rw [hfi, StrLaws.occ_eq]
  rcases StrLaws.occ_first x NL x.length 1 (Nat.le_refl 1) (List.range' i (x.length + 1 - i)) i (fun k hk => by simp [List.mem_range'] at hk; omega) with ⟨h0, hn⟩ | ⟨pre, a, post, ea, h0, hA, hn⟩
  · rw [h0]
    have hr0 : r = [] := by
      rcases hr with h | ⟨r', h⟩
      · exact h
      · exfalso
        refine hn (i + p.length) (by rw [hlen, h]; simp [List.mem_range']; omega) ((at_ _ (by omega)).mpr ?_)
        rw [show i + p.length - i = p.length by omega, List.getElem?_append_right (Nat.le_refl _), Nat.sub_self, h]
        rfl
    simp only [List.toList_toArray]
    rw [hr0] at hlen
    simp at hlen
    simp; omega
  · have ha : i ≤ a := by
      have : a ∈ List.range' i (x.length + 1 - i) := by rw [ea]; simp
      simp [List.mem_range'] at this; omega
    have h2 := (at_ a ha).mp hA
    have ha2 : i + p.length ≤ a := by
      apply Classical.byContradiction
      intro hc
      exact hfree a ha (by omega) hA
    have hr1 : ∃ r', r = 10 :: r' := by
      rcases hr with h | h
      · rw [h, List.append_nil, List.getElem?_eq_none (by omega)] at h2; cases h2
      · exact h
    obtain ⟨r', er⟩ := hr1
    have hb : StrLaws.At x NL x.length (i + p.length) := (at_ _ (by omega)).mpr (by
      rw [show i + p.length - i = p.length by omega, List.getElem?_append_right (Nat.le_refl _), Nat.sub_self, er]; rfl)
    have ha3 : a = i + p.length := by
      apply Classical.byContradiction
      intro hc
      have hlt : i + p.length < a := by omega
      have hm : i + p.length ∈ pre := by
        have hm : i + p.length ∈ pre ++ a :: post := by
          rw [← ea]; rw [hlen, er]; simp [List.mem_range']; omega
        rcases List.mem_append.mp hm with hm | hm
        · exact hm
        · exfalso
          have pw : (pre ++ a :: post).Pairwise (· < ·) := by rw [← ea]; exact List.pairwise_lt_range'
          have pw2 := (List.pairwise_append.mp pw).2.1
          rcases List.mem_cons.mp hm with hm | hm
          · omega
          · have := (List.pairwise_cons.mp pw2).1 _ hm
            omega
      exact hn _ hm hb
    subst ha3
    generalize (forIn (List.range' i (x.length + 1 - i)) ((#[] : Array Nat), i) (StrLaws.occBody x NL x.length 1)).run.fst = arr at h0
    have : ∃ l, arr.toList = (i + p.length) :: l := by
      have h1 : arr.toList[0]? = some (i + p.length) := by rw [← h0]; simp
      cases hl : arr.toList with
      | nil => rw [hl] at h1; cases h1
      | cons y l => rw [hl] at h1; cases h1; exact ⟨l, rfl⟩
    obtain ⟨l, hl⟩ := this
    rw [hl]
    simp
    omega
end K85
namespace K85
open PySem PySem.Spec PyProof.Rows
/-! ### the lines of a text -/
def jnL : List (List Nat) → List Nat
  | [] => []
  | [a] => a
  | a :: b :: r => a ++ 10 :: jnL (b :: r)
theorem jn_lc : ∀ (L : List (List Nat)) (z : List Nat) (l : Int), (∀ a ∈ L ++ [z], 10 ∉ a) → lcF (l, 1) (jnL (L ++ [z])) = (l + (L.length : Int), 1 + (z.length : Int))
  | [], z, l, h => by
    show lcF (l, 1) z = _
    rw [lcF_free z _ (h z (by simp))]
    simp
  | a :: L, z, l, h => by
    have e : jnL (a :: L ++ [z]) = a ++ 10 :: jnL (L ++ [z]) := by
      cases L <;> rfl
    rw [e, lcF_app, lcF_free a _ (h a (by simp)), lcF_cons]
    unfold lcS
    rw [if_pos rfl, jn_lc L z (l + 1) (fun b hb => h b (by simp at hb ⊢; exact .inr hb))]
    simp; omega
/-- the lines before a place, and the signs before it in its own -/
theorem jn_at : ∀ (L : List (List Nat)) (p r : List Nat), L ≠ [] → (∀ a ∈ L, 10 ∉ a) → jnL L = p ++ r → ∃ n : Nat, (lcF (1, 1) p).1 = 1 + n ∧ n < L.length ∧ (((L.take n).map fun a => (a.length : Int) + 1).sum + (lcF (1, 1) p).2 - 1 = p.length)
  | [], p, r, h, _, _ => absurd rfl h
  | [a], p, r, _, hf, e => by
    have e : a = p ++ r := e
    have hp : 10 ∉ p := fun hm => hf a (by simp) (by rw [e]; exact List.mem_append_left _ hm)
    refine ⟨0, by rw [lcF_free p _ hp]; simp, by simp, ?_⟩
    rw [lcF_free p _ hp]; simp; omega
  | a :: b :: L, p, r, _, hf, e => by
    have e : a ++ 10 :: jnL (b :: L) = p ++ r := e
    have ha : 10 ∉ a := hf a (by simp)
    rcases List.append_eq_append_iff.mp e with ⟨q, h1, h2⟩ | ⟨q, h1, h2⟩
    · cases q with
      | nil =>
        rw [List.append_nil] at h1
        subst h1
        refine ⟨0, by rw [lcF_free p _ ha]; simp, by simp, ?_⟩
        rw [lcF_free p _ ha]; simp; omega
      | cons y q =>
        obtain ⟨rfl, h3⟩ := List.cons.inj h2
        obtain ⟨n, h4, h5, h6⟩ := jn_at (b :: L) q r (by simp) (fun c hc => hf c (by simp at hc ⊢; exact .inr hc)) h3
        have e2 : lcF (1, 1) p = ((lcF (1, 1) q).1 + 1, (lcF (1, 1) q).2) := by
          rw [h1, lcF_app, lcF_free a _ ha, lcF_cons]
          unfold lcS
          rw [if_pos rfl]
          have sh : ∀ (t : List Nat) (l c k : Int), lcF (l + k, c) t = ((lcF (l, c) t).1 + k, (lcF (l, c) t).2) := by
            intro t
            induction t with
            | nil => intro l c k; rfl
            | cons x t ih =>
              intro l c k
              rw [lcF_cons, lcF_cons]
              unfold lcS
              by_cases hx : x = 10
              · rw [if_pos hx, if_pos hx]
                show lcF (l + k + 1, 1) t = _
                rw [show l + k + 1 = l + 1 + k by omega, ih]
              · rw [if_neg hx, if_neg hx]
                exact ih _ _ _
          exact sh q 1 1 1
        refine ⟨n + 1, by rw [e2, h4]; simp; omega, by simp at h5 ⊢; omega, ?_⟩
        rw [e2, h1]
        simp only [List.take_succ_cons, List.map_cons, List.sum_cons, List.length_append, List.length_cons]
        omega
    · have hp : 10 ∉ p := fun hm => ha (by rw [h1]; exact List.mem_append_left _ hm)
      refine ⟨0, by rw [lcF_free p _ hp]; simp, by simp, ?_⟩
      rw [lcF_free p _ hp]; simp; omega
theorem tx_nl : tx NL = [10] := rfl
theorem tx_jn : ∀ L : List Str, tx (Str.join NL L) = jnL (L.map tx)
  | [] => by decide +kernel
  | [a] => rfl
  | a :: b :: L => by
    show tx (a ++ NL ++ Str.join NL (b :: L)) = tx a ++ 10 :: jnL ((b :: L).map tx)
    rw [tx_app, tx_app, tx_jn (b :: L), tx_nl]
    simp
/-- a text, by its lines -/
theorem lines_ok (x : Str) : ∃ (L : List Str) (z : Str), Txt.split x NL = L ++ [z] ∧ (∀ a ∈ L ++ [z], 10 ∉ tx a) ∧ tx x = jnL ((L ++ [z]).map tx) := by
  have h1 := StrLaws.join_split x NL
  have h2 := StrLaws.split_free x 10
  have h3 := split_pos x NL
  have hne : Txt.split x NL ≠ [] := fun e => by rw [e] at h3; simp at h3
  have e := (List.dropLast_concat_getLast hne).symm
  refine ⟨(Txt.split x NL).dropLast, (Txt.split x NL).getLast hne, e, fun a ha => h2 a (by rw [← e] at ha; exact ha), ?_⟩
  rw [← e, ← tx_jn, h1]
theorem lines_lc {x z : Str} {L : List Str} (hf : ∀ a ∈ L ++ [z], 10 ∉ tx a) (e : tx x = jnL ((L ++ [z]).map tx)) : (lcF (1, 1) (tx x)).1 = L.length + 1 ∧ (lcF (1, 1) (tx x)).2 = z.length + 1 := by
  rw [e, List.map_append, List.map_singleton, jn_lc (L.map tx) (tx z) 1 (fun a ha => by
    rw [← List.map_singleton, ← List.map_append] at ha
    obtain ⟨b, hb, rfl⟩ := List.mem_map.mp ha
    exact hf b hb), tx_len z, List.length_map]
  exact ⟨Int.add_comm _ _, Int.add_comm _ _⟩
end K85
namespace K85
open PySem PySem.Spec PyProof.Rows L2 Vp
/-! ### the scanner -/
abbrev PL := Int × Int
theorem nl_eq : (Str.ofString "\n") = NL := by decide +kernel
theorem one_eq {y : Nat} {s : Str} {c : Nat} (e : tx s = [c]) : ((⟨#[y]⟩ : Str) = s) ↔ y = c := by
  constructor
  · intro h
    have := congrArg tx h
    rw [e] at this
    exact (List.cons.inj this).1
  · rintro rfl
    exact tx_ext e.symm
theorem in_one {x : Str} {y : Nat} : (!(Builtin.Str.occurrences x ⟨#[y]⟩ 0 x.length 1).isEmpty) = decide (y ∈ tx x) := StrLaws.found_one x y
def C_ce : Con := fun ds M Q _ => ∃ (x : Str) (i : Nat) (p r : List Nat), ds = [.str x, .int (i : Nat)] ∧ x.length ≤ 1000000 ∧ i ≤ x.length ∧ (tx x).drop i = p ++ r ∧ 10 ∉ p ∧ (r = [] ∨ ∃ r', r = 10 :: r') ∧ Q (.int (i + p.length : Nat)) M
theorem w_ce (ds : List D) (M : Mo) (Q : QE) (X : XQ) (h : C_ce ds M Q X) : vSs g0 b_comment_end (endsOf Q X) (startD 3 ds) M := by
  obtain ⟨x, i, p, r, rfl, hx, hi, e, hp, hr, q⟩ := h
  have key := find3_next hi e hp hr
  simp (maxSteps := 400000) only [vSs, vS, vE, vEs, vT, vTo, vEo, vI, setV, slV, seqL', keyD, startD, endsOf, List.map_cons, List.map_nil, List.length_cons, List.length_nil, List.replicate, List.cons_append, List.nil_append, Nat.reduceAdd, Nat.reduceSub, Nat.reduceLeDiff, List.getElem?_cons_zero, List.getElem?_cons_succ, Option.some.injEq, exists_eq_left', exists_eq_left, exists_eq', exists_eq, bindT, bindTs, List.set_cons_zero, List.set_cons_succ, ixV, atI0, atI1, atI2, atI3, cmpV, cmpEq, cmpIs, fOp, fCmp, binV, augV, Bi.wp, Bi.val, truD, wipeR, slotsT, slotsTs, Int.cast_ofNat_Int, seqV, seqF, seqL, Option.map_some, Option.map_none, D.ref.injEq, D.int.injEq, D.bl.injEq, MO.lst.injEq, exists_and_left, exists_and_right, updM_same, updM_updM, viewR, viewD, viewDs, flatD, ixN0, ixN1, ixN2, ifB, ifNB, Bool.not_true, Bool.not_false, Bool.false_eq_true, Bool.true_eq_false, if_true, if_false, ite_true, ite_false, true_and, and_true, or_true, true_or, or_false, false_or, false_and, and_false, String.reduceEq, eq_self, decide_true, decide_false, exIf, ne_eq, not_false_eq_true, Nat.zero_le, b_comment_end]
  simp (maxSteps := 400000) only [vSs, vS, vE, vEs, vT, vTo, vEo, vI, setV, slV, seqL', keyD, startD, endsOf, List.map_cons, List.map_nil, List.length_cons, List.length_nil, List.replicate, List.cons_append, List.nil_append, Nat.reduceAdd, Nat.reduceSub, Nat.reduceLeDiff, List.getElem?_cons_zero, List.getElem?_cons_succ, Option.some.injEq, exists_eq_left', exists_eq_left, exists_eq', exists_eq, bindT, bindTs, List.set_cons_zero, List.set_cons_succ, ixV, atI0, atI1, atI2, atI3, cmpV, cmpEq, cmpIs, fOp, fCmp, binV, augV, Bi.wp, Bi.val, truD, wipeR, slotsT, slotsTs, Int.cast_ofNat_Int, seqV, seqF, seqL, Option.map_some, Option.map_none, D.ref.injEq, D.int.injEq, D.bl.injEq, MO.lst.injEq, exists_and_left, exists_and_right, updM_same, updM_updM, viewR, viewD, viewDs, flatD, ixN0, ixN1, ixN2, ifB, ifNB, Bool.not_true, Bool.not_false, Bool.false_eq_true, Bool.true_eq_false, if_true, if_false, ite_true, ite_false, true_and, and_true, or_true, true_or, or_false, false_or, false_and, and_false, String.reduceEq, eq_self, decide_true, decide_false, exIf, ne_eq, not_false_eq_true, Nat.zero_le, b_comment_end_1, nl_eq]
  refine ⟨⟨_, rfl⟩, _, rfl, _, rfl, iteI (fun hc => ?_) fun hc => ?_⟩
  · rw [if_pos hc] at key
    refine ⟨by omega, _, Sub.refl _, ?_⟩
    rw [key]; exact q
  · rw [if_neg hc] at key
    refine ⟨_, Sub.refl _, ?_⟩
    rw [key]; exact q
theorem vSs_while {Γ : Gam} {t : T} {body r : Ss} {K : EndsD} {ρ : Rho} {M : Mo} (h : ∃ n, vWhile (vT Γ t) (vSs Γ body) { K with nx := fun ρ1 M1 => vSs Γ r K ρ1 M1 } n ρ M) : vSs Γ (.cons (.while t body) r) K ρ M := by
  unfold vSs; unfold vS; exact h
theorem vWhile_succ {wt : Rho → Mo → (Bool → Mo → Prop) → XQ → Prop} {wb : EndsD → Rho → Mo → Prop} {K : EndsD} {n : Nat} {ρ : Rho} {M : Mo}
    (h : ∀ N : Rho → Mo → Prop, (∀ ρ M, vWhile wt wb K n ρ M → N ρ M) → wt ρ M (fun b M1 => if b = true then wb { K with nx := N, ct := N, bk := K.nx } ρ M1 else K.nx ρ M1) (fun c fs M1 => K.ex c fs ρ M1)) : vWhile wt wb K (n + 1) ρ M := h _ fun _ _ h => h
theorem inV_one {M : Mo} {x : Str} {y : Nat} : inV M (.str ⟨#[y]⟩) (.str x) = some (decide (y ∈ tx x)) := congrArg some in_one
theorem ixV_at {M : Mo} {x : Str} {i y : Nat} (hx : x.length ≤ 16777216) (h : atI (tx x) (i : Int) = some y) : ixV M (.str x) (.int (i : Nat)) = some (.str ⟨#[y]⟩) := by
  show (if x.length ≤ 16777216 then (atI x.cps.toList i).map fun c => D.str ⟨#[c]⟩ else none) = _
  rw [if_pos hx, h]; rfl
def C_we : Con := fun ds M Q _ => ∃ (x : Str) (i : Nat) (p r : List Nat), ds = [.str x, .int (i : Nat)] ∧ x.length ≤ 1000000 ∧ (tx x).drop i = p ++ r ∧ (∀ y ∈ p, isW y = true) ∧ (∀ y r', r = y :: r' → isW y = false) ∧ Q (.int (i + p.length : Nat)) M
theorem at_drop {x : Str} {i y : Nat} {r : List Nat} (h : (tx x).drop i = y :: r) : i < x.length ∧ atI (tx x) (i : Int) = some y ∧ (tx x).drop (i + 1) = r := by
  have hl := tx_len x
  have hlt : i < (tx x).length := by
    apply Classical.byContradiction
    intro hc
    rw [List.drop_eq_nil_of_le (by omega)] at h; cases h
  rw [List.drop_eq_getElem_cons hlt] at h
  obtain ⟨h1, h2⟩ := List.cons.inj h
  exact ⟨by omega, atI_nat (by rw [List.getElem?_eq_getElem hlt, h1]), h2⟩
theorem drop_nil {x : Str} {i : Nat} (h : (tx x).drop i = []) : x.length ≤ i := by
  have hl := tx_len x
  have := List.drop_eq_nil_iff.mp h
  omega
abbrev c_we : T := .and (.cmp .Lt (.var 1) (.bi .len (.cons (.var 0) .nil))) (.isin false (.ix (.var 0) (.var 1)) (.glob 0))
abbrev G_we : Gam := { cs := [("WORD_CHARACTERS", .str WORD)] }
theorem we_loop {x : Str} {r : List Nat} {K : EndsD} {M : Mo} (hx : x.length ≤ 1000000) (hr : ∀ y r', r = y :: r' → isW y = false) : ∀ (p : List Nat) (i : Nat), (tx x).drop i = p ++ r → (∀ y ∈ p, isW y = true) → K.nx [some (.str x), some (.int (i + p.length : Nat))] M →
    vWhile (vT G_we c_we) (vSs G_we b_word_end_1) K (p.length + 1) [some (.str x), some (.int (i : Nat))] M
  | [], i, e, _, q => vWhile_succ fun N hN => by
    simp (maxSteps := 400000) only [vSs, vS, vE, vEs, vT, vTo, vEo, vI, setV, slV, seqL', keyD, startD, endsOf, List.map_cons, List.map_nil, List.length_cons, List.length_nil, List.replicate, List.cons_append, List.nil_append, Nat.reduceAdd, Nat.reduceSub, Nat.reduceLeDiff, List.getElem?_cons_zero, List.getElem?_cons_succ, Option.some.injEq, exists_eq_left', exists_eq_left, exists_eq', exists_eq, bindT, bindTs, List.set_cons_zero, List.set_cons_succ, ixV, atI0, atI1, atI2, atI3, cmpV, cmpEq, cmpIs, fOp, fCmp, binV, augV, Bi.wp, Bi.val, truD, wipeR, slotsT, slotsTs, Int.cast_ofNat_Int, seqV, seqF, seqL, Option.map_some, Option.map_none, D.ref.injEq, D.int.injEq, D.bl.injEq, MO.lst.injEq, exists_and_left, exists_and_right, updM_same, updM_updM, viewR, viewD, viewDs, flatD, ixN0, ixN1, ixN2, ifB, ifNB, Bool.not_true, Bool.not_false, Bool.false_eq_true, Bool.true_eq_false, if_true, if_false, ite_true, ite_false, true_and, and_true, or_true, true_or, or_false, false_or, false_and, and_false, String.reduceEq, eq_self, decide_true, decide_false, exIf, ne_eq, not_false_eq_true, Nat.zero_le]
    refine ⟨by omega, iteI (fun hc => ?_) fun hc => ?_⟩
    · cases r with
      | nil => have := drop_nil e; omega
      | cons y r =>
        obtain ⟨_, h2, _⟩ := at_drop e
        refine ⟨_, ixV_at (M := M) (by omega) h2, _, inV_one, ?_⟩
        have := hr y r rfl
        unfold isW at this
        rw [this, if_neg Bool.false_ne_true]
        exact q
    · exact q
  | y :: p, i, e, hp, q => vWhile_succ fun N hN => by
    obtain ⟨h1, h2, h3⟩ := at_drop e
    simp (maxSteps := 400000) only [vSs, vS, vE, vEs, vT, vTo, vEo, vI, setV, slV, seqL', keyD, startD, endsOf, List.map_cons, List.map_nil, List.length_cons, List.length_nil, List.replicate, List.cons_append, List.nil_append, Nat.reduceAdd, Nat.reduceSub, Nat.reduceLeDiff, List.getElem?_cons_zero, List.getElem?_cons_succ, Option.some.injEq, exists_eq_left', exists_eq_left, exists_eq', exists_eq, bindT, bindTs, List.set_cons_zero, List.set_cons_succ, ixV, atI0, atI1, atI2, atI3, cmpV, cmpEq, cmpIs, fOp, fCmp, binV, augV, Bi.wp, Bi.val, truD, wipeR, slotsT, slotsTs, Int.cast_ofNat_Int, seqV, seqF, seqL, Option.map_some, Option.map_none, D.ref.injEq, D.int.injEq, D.bl.injEq, MO.lst.injEq, exists_and_left, exists_and_right, updM_same, updM_updM, viewR, viewD, viewDs, flatD, ixN0, ixN1, ixN2, ifB, ifNB, Bool.not_true, Bool.not_false, Bool.false_eq_true, Bool.true_eq_false, if_true, if_false, ite_true, ite_false, true_and, and_true, or_true, true_or, or_false, false_or, false_and, and_false, String.reduceEq, eq_self, decide_true, decide_false, exIf, ne_eq, not_false_eq_true, Nat.zero_le]
    refine ⟨by omega, ?_⟩
    rw [if_pos (by omega : (i : Int) < (x.length : Nat))]
    refine ⟨_, ixV_at (M := M) (by omega) h2, _, inV_one, ?_⟩
    have := hp y (List.mem_cons_self ..)
    unfold isW at this
    rw [this, if_pos rfl]
    simp (maxSteps := 400000) only [vSs, vS, vE, vEs, vT, vTo, vEo, vI, setV, slV, seqL', keyD, startD, endsOf, List.map_cons, List.map_nil, List.length_cons, List.length_nil, List.replicate, List.cons_append, List.nil_append, Nat.reduceAdd, Nat.reduceSub, Nat.reduceLeDiff, List.getElem?_cons_zero, List.getElem?_cons_succ, Option.some.injEq, exists_eq_left', exists_eq_left, exists_eq', exists_eq, bindT, bindTs, List.set_cons_zero, List.set_cons_succ, ixV, atI0, atI1, atI2, atI3, cmpV, cmpEq, cmpIs, fOp, fCmp, binV, augV, Bi.wp, Bi.val, truD, wipeR, slotsT, slotsTs, Int.cast_ofNat_Int, seqV, seqF, seqL, Option.map_some, Option.map_none, D.ref.injEq, D.int.injEq, D.bl.injEq, MO.lst.injEq, exists_and_left, exists_and_right, updM_same, updM_updM, viewR, viewD, viewDs, flatD, ixN0, ixN1, ixN2, ifB, ifNB, Bool.not_true, Bool.not_false, Bool.false_eq_true, Bool.true_eq_false, if_true, if_false, ite_true, ite_false, true_and, and_true, or_true, true_or, or_false, false_or, false_and, and_false, String.reduceEq, eq_self, decide_true, decide_false, exIf, ne_eq, not_false_eq_true, Nat.zero_le, b_word_end_1]
    refine hN _ _ (we_loop hx hr p (i + 1) h3 (fun z hz => hp z (List.mem_cons_of_mem _ hz)) ?_)
    rw [show i + 1 + p.length = i + (y :: p).length by simp; omega]
    exact q
theorem w_we (ds : List D) (M : Mo) (Q : QE) (X : XQ) (h : C_we ds M Q X) : vSs G_we b_word_end (endsOf Q X) (startD 2 ds) M := by
  obtain ⟨x, i, p, r, rfl, hx, e, hp, hr, q⟩ := h
  refine vSs_while ⟨_, we_loop hx hr p i e hp ?_⟩
  simp (maxSteps := 400000) only [vSs, vS, vE, vEs, vT, vTo, vEo, vI, setV, slV, seqL', keyD, startD, endsOf, List.map_cons, List.map_nil, List.length_cons, List.length_nil, List.replicate, List.cons_append, List.nil_append, Nat.reduceAdd, Nat.reduceSub, Nat.reduceLeDiff, List.getElem?_cons_zero, List.getElem?_cons_succ, Option.some.injEq, exists_eq_left', exists_eq_left, exists_eq', exists_eq, bindT, bindTs, List.set_cons_zero, List.set_cons_succ, ixV, atI0, atI1, atI2, atI3, cmpV, cmpEq, cmpIs, fOp, fCmp, binV, augV, Bi.wp, Bi.val, truD, wipeR, slotsT, slotsTs, Int.cast_ofNat_Int, seqV, seqF, seqL, Option.map_some, Option.map_none, D.ref.injEq, D.int.injEq, D.bl.injEq, MO.lst.injEq, exists_and_left, exists_and_right, updM_same, updM_updM, viewR, viewD, viewDs, flatD, ixN0, ixN1, ixN2, ifB, ifNB, Bool.not_true, Bool.not_false, Bool.false_eq_true, Bool.true_eq_false, if_true, if_false, ite_true, ite_false, true_and, and_true, or_true, true_or, or_false, false_or, false_and, and_false, String.reduceEq, eq_self, decide_true, decide_false, exIf, ne_eq, not_false_eq_true, Nat.zero_le, b_word_end_2]
  exact ⟨_, Sub.refl _, q⟩
end K85
namespace K85
open PySem PySem.Spec PyProof.Rows L2 Vp
/-! ### TextError -/
abbrev smallI (i : Int) : Prop := 0 ≤ i ∧ i < 10 ^ 9
def teFlds : List D → Option (List (Str × D))
  | [.int l, .int c, .str m] => if (smallI l ∧ smallI c) ∧ m.length ≤ 1000 then some [("words", .str m), ("column", .int c), ("line", .int l)] else none
  | _ => none
abbrev X_te (te : Addr) : Xc := ⟨"TextError", te, 3, teFlds⟩
def teF (p : PL) (m : Str) : List (Str × D) := [("words", .str m), ("column", .int p.2), ("line", .int p.1)]
theorem te_some {p : PL} {m : Str} (h1 : smallI p.1) (h2 : smallI p.2) (h3 : m.length ≤ 1000) : teFlds [.int p.1, .int p.2, .str m] = some (teF p m) := if_pos ⟨⟨h1, h2⟩, h3⟩
theorem fmt_small {i : Int} (h : smallI i) : ∃ m, fmtB (.int i) = some m ∧ m ≤ 10 := by
  refine ⟨(Str.ofString (toString i)).length, ?_, toString_length_le h.1 (by decide) (by have := h.2; omega)⟩
  show (if i.natAbs.log2 < 1920 then some (Str.ofString (toString i)).length else none) = _
  rw [if_pos ?_]
  have h2 : i.natAbs < 2 ^ 1920 := by
    have : i.natAbs < 10 ^ 9 := by have := h.1; have := h.2; omega
    exact Nat.lt_of_lt_of_le this (by decide)
  by_cases h0 : i.natAbs = 0
  · rw [h0]; decide
  · exact (Nat.log2_lt h0).mpr h2
theorem w_te (te : Addr) (ds : List D) (M : Mo) (Q : QE) (X : XQ) (h : xcon (X_te te) ds M Q X) : vSs { pes := ["PlanError"], xfl := [(te, "line"), (te, "column"), (te, "words")] } b_TextError___init__ (endsOf Q X) (startD 4 ds) M := by
  obtain ⟨a, es, fs, rfl, ha, hf, q⟩ := h
  have : ∃ (l c : Int) (m : Str), es = [.int l, .int c, .str m] ∧ smallI l ∧ smallI c ∧ m.length ≤ 1000 ∧ fs = teF (l, c) m := by
    have hf : teFlds es = some fs := hf
    unfold teFlds at hf
    split at hf
    · rename_i l c m _
      by_cases h : (smallI l ∧ smallI c) ∧ m.length ≤ 1000
      · rw [if_pos h] at hf
        exact ⟨l, c, m, rfl, h.1.1, h.1.2, h.2, (Option.some.inj hf).symm⟩
      · rw [if_neg h] at hf; cases hf
    · cases hf
  obtain ⟨l, c, m, rfl, hl, hc, hm, rfl⟩ := this
  obtain ⟨nl, fl, bl⟩ := fmt_small hl
  obtain ⟨nc, fc, bc⟩ := fmt_small hc
  have l1 : ((":" : Str)).length = 1 := by decide
  have l2 : ((": " : Str)).length = 2 := by decide
  simp (maxSteps := 400000) only [vSs, vS, vE, vEs, vT, vTo, vEo, vI, setV, slV, seqL', keyD, startD, endsOf, List.map_cons, List.map_nil, List.length_cons, List.length_nil, List.replicate, List.cons_append, List.nil_append, Nat.reduceAdd, Nat.reduceSub, Nat.reduceLeDiff, List.getElem?_cons_zero, List.getElem?_cons_succ, Option.some.injEq, exists_eq_left', exists_eq_left, exists_eq', exists_eq, bindT, bindTs, List.set_cons_zero, List.set_cons_succ, ixV, atI0, atI1, atI2, atI3, cmpV, cmpEq, cmpIs, fOp, fCmp, binV, augV, Bi.wp, Bi.val, truD, wipeR, slotsT, slotsTs, Int.cast_ofNat_Int, seqV, seqF, seqL, Option.map_some, Option.map_none, D.ref.injEq, D.int.injEq, D.bl.injEq, MO.lst.injEq, exists_and_left, exists_and_right, updM_same, updM_updM, viewR, viewD, viewDs, flatD, ixN0, ixN1, ixN2, ifB, ifNB, Bool.not_true, Bool.not_false, Bool.false_eq_true, Bool.true_eq_false, if_true, if_false, ite_true, ite_false, true_and, and_true, or_true, true_or, or_false, false_or, false_and, and_false, String.reduceEq, eq_self, decide_true, decide_false, exIf, ne_eq, not_false_eq_true, Nat.zero_le, b_TextError___init__]
  unfold vJs vJs vJs vJs vJs vJs
  simp (maxSteps := 400000) only [vSs, vS, vE, vEs, vT, vTo, vEo, vI, setV, slV, seqL', keyD, startD, endsOf, List.map_cons, List.map_nil, List.length_cons, List.length_nil, List.replicate, List.cons_append, List.nil_append, Nat.reduceAdd, Nat.reduceSub, Nat.reduceLeDiff, List.getElem?_cons_zero, List.getElem?_cons_succ, Option.some.injEq, exists_eq_left', exists_eq_left, exists_eq', exists_eq, bindT, bindTs, List.set_cons_zero, List.set_cons_succ, ixV, atI0, atI1, atI2, atI3, cmpV, cmpEq, cmpIs, fOp, fCmp, binV, augV, Bi.wp, Bi.val, truD, wipeR, slotsT, slotsTs, Int.cast_ofNat_Int, seqV, seqF, seqL, Option.map_some, Option.map_none, D.ref.injEq, D.int.injEq, D.bl.injEq, MO.lst.injEq, exists_and_left, exists_and_right, updM_same, updM_updM, viewR, viewD, viewDs, flatD, ixN0, ixN1, ixN2, ifB, ifNB, Bool.not_true, Bool.not_false, Bool.false_eq_true, Bool.true_eq_false, if_true, if_false, ite_true, ite_false, true_and, and_true, or_true, true_or, or_false, false_or, false_and, and_false, String.reduceEq, eq_self, decide_true, decide_false, exIf, ne_eq, not_false_eq_true, Nat.zero_le, fl, fc, l1, l2]
  refine ⟨by omega, by omega, by omega, by omega, m.length, rfl, by omega, te, ⟨_, List.mem_cons_self ..⟩, ha, ?_⟩
  simp (maxSteps := 400000) only [vSs, vS, vE, vEs, vT, vTo, vEo, vI, setV, slV, seqL', keyD, startD, endsOf, List.map_cons, List.map_nil, List.length_cons, List.length_nil, List.replicate, List.cons_append, List.nil_append, Nat.reduceAdd, Nat.reduceSub, Nat.reduceLeDiff, List.getElem?_cons_zero, List.getElem?_cons_succ, Option.some.injEq, exists_eq_left', exists_eq_left, exists_eq', exists_eq, bindT, bindTs, List.set_cons_zero, List.set_cons_succ, ixV, atI0, atI1, atI2, atI3, cmpV, cmpEq, cmpIs, fOp, fCmp, binV, augV, Bi.wp, Bi.val, truD, wipeR, slotsT, slotsTs, Int.cast_ofNat_Int, seqV, seqF, seqL, Option.map_some, Option.map_none, D.ref.injEq, D.int.injEq, D.bl.injEq, MO.lst.injEq, exists_and_left, exists_and_right, updM_same, updM_updM, viewR, viewD, viewDs, flatD, ixN0, ixN1, ixN2, ifB, ifNB, Bool.not_true, Bool.not_false, Bool.false_eq_true, Bool.true_eq_false, if_true, if_false, ite_true, ite_false, true_and, and_true, or_true, true_or, or_false, false_or, false_and, and_false, String.reduceEq, eq_self, decide_true, decide_false, exIf, ne_eq, not_false_eq_true, Nat.zero_le, b_TextError___init___3]
  refine ⟨te, by simp, .inl ⟨ha, fun dx hdx hne => ?_⟩⟩
  simp (maxSteps := 400000) only [vSs, vS, vE, vEs, vT, vTo, vEo, vI, setV, slV, seqL', keyD, startD, endsOf, List.map_cons, List.map_nil, List.length_cons, List.length_nil, List.replicate, List.cons_append, List.nil_append, Nat.reduceAdd, Nat.reduceSub, Nat.reduceLeDiff, List.getElem?_cons_zero, List.getElem?_cons_succ, Option.some.injEq, exists_eq_left', exists_eq_left, exists_eq', exists_eq, bindT, bindTs, List.set_cons_zero, List.set_cons_succ, ixV, atI0, atI1, atI2, atI3, cmpV, cmpEq, cmpIs, fOp, fCmp, binV, augV, Bi.wp, Bi.val, truD, wipeR, slotsT, slotsTs, Int.cast_ofNat_Int, seqV, seqF, seqL, Option.map_some, Option.map_none, D.ref.injEq, D.int.injEq, D.bl.injEq, MO.lst.injEq, exists_and_left, exists_and_right, updM_same, updM_updM, viewR, viewD, viewDs, flatD, ixN0, ixN1, ixN2, ifB, ifNB, Bool.not_true, Bool.not_false, Bool.false_eq_true, Bool.true_eq_false, if_true, if_false, ite_true, ite_false, true_and, and_true, or_true, true_or, or_false, false_or, false_and, and_false, String.reduceEq, eq_self, decide_true, decide_false, exIf, ne_eq, not_false_eq_true, Nat.zero_le, b_TextError___init___2]
  refine ⟨te, by simp, .inr ⟨dx, rfl, _, by rw [updM_ne hne, updM_same], by simp, ?_⟩⟩
  simp (maxSteps := 400000) only [vSs, vS, vE, vEs, vT, vTo, vEo, vI, setV, slV, seqL', keyD, startD, endsOf, List.map_cons, List.map_nil, List.length_cons, List.length_nil, List.replicate, List.cons_append, List.nil_append, Nat.reduceAdd, Nat.reduceSub, Nat.reduceLeDiff, List.getElem?_cons_zero, List.getElem?_cons_succ, Option.some.injEq, exists_eq_left', exists_eq_left, exists_eq', exists_eq, bindT, bindTs, List.set_cons_zero, List.set_cons_succ, ixV, atI0, atI1, atI2, atI3, cmpV, cmpEq, cmpIs, fOp, fCmp, binV, augV, Bi.wp, Bi.val, truD, wipeR, slotsT, slotsTs, Int.cast_ofNat_Int, seqV, seqF, seqL, Option.map_some, Option.map_none, D.ref.injEq, D.int.injEq, D.bl.injEq, MO.lst.injEq, exists_and_left, exists_and_right, updM_same, updM_updM, viewR, viewD, viewDs, flatD, ixN0, ixN1, ixN2, ifB, ifNB, Bool.not_true, Bool.not_false, Bool.false_eq_true, Bool.true_eq_false, if_true, if_false, ite_true, ite_false, true_and, and_true, or_true, true_or, or_false, false_or, false_and, and_false, String.reduceEq, eq_self, decide_true, decide_false, exIf, ne_eq, not_false_eq_true, Nat.zero_le, b_TextError___init___1]
  refine ⟨te, by simp, .inr ⟨dx, by rw [updM_ne (Ne.symm hne), updM_same], _, updM_same, by simp, ?_⟩⟩
  refine ⟨_, fun b o h => ?_, q dx hdx hne⟩
  by_cases e1 : b = dx
  · subst e1
    rw [updM_ne hne, updM_same] at h
    rw [updM_same]; exact h
  · rw [updM_ne e1]
    by_cases e2 : b = a
    · subst e2; rw [updM_same] at h; rw [updM_ne e1, updM_same]; exact h
    · rw [updM_ne e2, updM_ne e1] at h
      rw [updM_ne e1, updM_ne e2, updM_ne e1]; exact h
/-! ### scan -/
theorem cut_word {x : Str} {i : Nat} {w r : List Nat} (h : (tx x).drop i = w ++ r) (h2 : i + w.length ≤ x.length) : cutS x (some (i : Nat)) (some ((i + w.length : Nat) : Int)) = ⟨w.toArray⟩ := by
  unfold cutS
  rw [HT.sIx_nat, HT.sIx_nat, Nat.min_eq_left (show i ≤ x.length by omega), Nat.min_eq_left h2, h, show i + w.length - i = w.length by omega, List.take_left]
theorem slV_cut {M : Mo} {x : Str} {lo hi : Option Int} (h : x.length ≤ 16777216) : slV M (.str x) lo hi = some (.str (cutS x lo hi)) := if_pos h
def itD (t : IT) : D := .tup [.str t.1, .int t.2.1, .int t.2.2]
def smallP (p : PL) : Prop := smallI p.1 ∧ smallI p.2
def C_scan (te : Addr) : Con := fun ds M Q X => ∃ (x : Str) (its : List IT) (e : Option (Int × Int)), ds = [.str x] ∧ x.length ≤ 1000000 ∧ Sc (tx x) 1 1 its e ∧ (e = none → ∀ M', Sub M M' → Q (.lst (its.map itD)) M') ∧ (∀ q, e = some q → smallP q ∧ ∀ M', Sub M M' → X (.ref te) (teF q "no such character") M')
abbrev F_ce : Fn := ⟨"comment_end", 2, C_ce⟩
abbrev F_we : Fn := ⟨"word_end", 2, C_we⟩
abbrev G_scan (te : Addr) : Gam := { fns := [F_ce, F_we], xcs := [X_te te] }
abbrev c_scan : T := .cmp .Lt (.var 4) (.bi .len (.cons (.var 0) .nil))
def scR (x : Str) (T : Addr) (l lb : Int) (at_ : Nat) (e5 e6 e7 : Option D) : Rho := [some (.str x), some (.ref T), some (.int l), some (.int lb), some (.int (at_ : Nat)), e5, e6, e7]
theorem sc_len {r : List Nat} {l c : Int} {ts : List IT} {e : Option (Int × Int)} (h : Sc r l c ts e) : ts.length ≤ r.length := by
  induction h with
  | nil => simp
  | bad => simp
  | nl h ih => simp; omega
  | rem hp hr h ih => simp at ih ⊢; omega
  | par hx h ih => simp; omega
  | gap hx h ih => simp; omega
  | word hw hr h ih => simp at ih ⊢; omega
section
variable {te T : Addr} {x : Str} {K : EndsD} {M0 : Mo}
theorem e10 : tx ("\n" : Str) = [10] := by decide +kernel
theorem e59 : tx (";" : Str) = [59] := by decide +kernel
theorem epar : tx ("()" : Str) = [40, 41] := by decide +kernel
theorem egap : tx (" \t" : Str) = [32, 9] := by decide +kernel
theorem scan_loop (hx : x.length ≤ 1000000) {r : List Nat} {l c : Int} {ts : List IT} {e : Option (Int × Int)} (h : Sc r l c ts e) : ∃ n, ∀ (at_ : Nat) (lb : Int) (acc : List IT) (e5 e6 e7 : Option D) (M : Mo), (tx x).drop at_ = r → at_ ≤ x.length → c = at_ - lb + 1 → acc.length ≤ at_ → Own M0 M T (acc.map itD) →
    (e = none → ∀ l lb at_ e5 e6 e7 M', Own M0 M' T ((acc ++ ts).map itD) → K.nx (scR x T l lb at_ e5 e6 e7) M') → (∀ q, e = some q → smallP q ∧ ∀ ρ' M', Sub M0 M' → K.ex (.ref te) (teF q "no such character") ρ' M') → vWhile (vT (G_scan te) c_scan) (vSs (G_scan te) b_scan_16) K n (scR x T l lb at_ e5 e6 e7) M := by
  induction h with
  | nil l c =>
    refine ⟨1, fun at_ lb acc e5 e6 e7 M hd ha hc hn o q qE => vWhile_succ fun N hN => ?_⟩
    have := drop_nil hd
    unfold scR
    simp (maxSteps := 400000) only [vSs, vS, vE, vEs, vT, vTo, vEo, vI, setV, slV, seqL', keyD, startD, endsOf, List.map_cons, List.map_nil, List.length_cons, List.length_nil, List.replicate, List.cons_append, List.nil_append, Nat.reduceAdd, Nat.reduceSub, Nat.reduceLeDiff, List.getElem?_cons_zero, List.getElem?_cons_succ, Option.some.injEq, exists_eq_left', exists_eq_left, exists_eq', exists_eq, bindT, bindTs, List.set_cons_zero, List.set_cons_succ, ixV, atI0, atI1, atI2, atI3, cmpV, cmpEq, cmpIs, fOp, fCmp, binV, augV, Bi.wp, Bi.val, truD, wipeR, slotsT, slotsTs, Int.cast_ofNat_Int, seqV, seqF, seqL, Option.map_some, Option.map_none, D.ref.injEq, D.int.injEq, D.bl.injEq, MO.lst.injEq, exists_and_left, exists_and_right, updM_same, updM_updM, viewR, viewD, viewDs, flatD, ixN0, ixN1, ixN2, ifB, ifNB, Bool.not_true, Bool.not_false, Bool.false_eq_true, Bool.true_eq_false, if_true, if_false, ite_true, ite_false, true_and, and_true, or_true, true_or, or_false, false_or, false_and, and_false, String.reduceEq, eq_self, decide_true, decide_false, exIf, ne_eq, not_false_eq_true, Nat.zero_le]
    refine ⟨by omega, ?_⟩
    rw [if_neg (by omega : ¬ (at_ : Int) < (x.length : Nat))]
    exact q rfl _ _ _ _ _ _ _ (by simpa using o)
  | @bad y r l c hy =>
    refine ⟨1, fun at_ lb acc e5 e6 e7 M hd ha hc hn o q qE => vWhile_succ fun N hN => ?_⟩
    obtain ⟨h1, h2, h3⟩ := at_drop hd
    obtain ⟨b1, b2, b3, b4, b5, b6, b7⟩ := hy
    obtain ⟨hq, qE⟩ := qE _ rfl
    unfold scR
    simp (maxSteps := 400000) only [vSs, vS, vE, vEs, vT, vTo, vEo, vI, setV, slV, seqL', keyD, startD, endsOf, List.map_cons, List.map_nil, List.length_cons, List.length_nil, List.replicate, List.cons_append, List.nil_append, Nat.reduceAdd, Nat.reduceSub, Nat.reduceLeDiff, List.getElem?_cons_zero, List.getElem?_cons_succ, Option.some.injEq, exists_eq_left', exists_eq_left, exists_eq', exists_eq, bindT, bindTs, List.set_cons_zero, List.set_cons_succ, ixV, atI0, atI1, atI2, atI3, cmpV, cmpEq, cmpIs, fOp, fCmp, binV, augV, Bi.wp, Bi.val, truD, wipeR, slotsT, slotsTs, Int.cast_ofNat_Int, seqV, seqF, seqL, Option.map_some, Option.map_none, D.ref.injEq, D.int.injEq, D.bl.injEq, MO.lst.injEq, exists_and_left, exists_and_right, updM_same, updM_updM, viewR, viewD, viewDs, flatD, ixN0, ixN1, ixN2, ifB, ifNB, Bool.not_true, Bool.not_false, Bool.false_eq_true, Bool.true_eq_false, if_true, if_false, ite_true, ite_false, true_and, and_true, or_true, true_or, or_false, false_or, false_and, and_false, String.reduceEq, eq_self, decide_true, decide_false, exIf, ne_eq, not_false_eq_true, Nat.zero_le]
    refine ⟨by omega, ?_⟩
    rw [if_pos (by omega : (at_ : Int) < (x.length : Nat))]
    simp (maxSteps := 400000) only [vSs, vS, vE, vEs, vT, vTo, vEo, vI, setV, slV, seqL', keyD, startD, endsOf, List.map_cons, List.map_nil, List.length_cons, List.length_nil, List.replicate, List.cons_append, List.nil_append, Nat.reduceAdd, Nat.reduceSub, Nat.reduceLeDiff, List.getElem?_cons_zero, List.getElem?_cons_succ, Option.some.injEq, exists_eq_left', exists_eq_left, exists_eq', exists_eq, bindT, bindTs, List.set_cons_zero, List.set_cons_succ, ixV, atI0, atI1, atI2, atI3, cmpV, cmpEq, cmpIs, fOp, fCmp, binV, augV, Bi.wp, Bi.val, truD, wipeR, slotsT, slotsTs, Int.cast_ofNat_Int, seqV, seqF, seqL, Option.map_some, Option.map_none, D.ref.injEq, D.int.injEq, D.bl.injEq, MO.lst.injEq, exists_and_left, exists_and_right, updM_same, updM_updM, viewR, viewD, viewDs, flatD, ixN0, ixN1, ixN2, ifB, ifNB, Bool.not_true, Bool.not_false, Bool.false_eq_true, Bool.true_eq_false, if_true, if_false, ite_true, ite_false, true_and, and_true, or_true, true_or, or_false, false_or, false_and, and_false, String.reduceEq, eq_self, decide_true, decide_false, exIf, ne_eq, not_false_eq_true, Nat.zero_le, b_scan_16]
    refine ⟨_, ixV_at (M := M) (by omega) h2, ?_⟩
    simp (maxSteps := 400000) only [vSs, vS, vE, vEs, vT, vTo, vEo, vI, setV, slV, seqL', keyD, startD, endsOf, List.map_cons, List.map_nil, List.length_cons, List.length_nil, List.replicate, List.cons_append, List.nil_append, Nat.reduceAdd, Nat.reduceSub, Nat.reduceLeDiff, List.getElem?_cons_zero, List.getElem?_cons_succ, Option.some.injEq, exists_eq_left', exists_eq_left, exists_eq', exists_eq, bindT, bindTs, List.set_cons_zero, List.set_cons_succ, ixV, atI0, atI1, atI2, atI3, cmpV, cmpEq, cmpIs, fOp, fCmp, binV, augV, Bi.wp, Bi.val, truD, wipeR, slotsT, slotsTs, Int.cast_ofNat_Int, seqV, seqF, seqL, Option.map_some, Option.map_none, D.ref.injEq, D.int.injEq, D.bl.injEq, MO.lst.injEq, exists_and_left, exists_and_right, updM_same, updM_updM, viewR, viewD, viewDs, flatD, ixN0, ixN1, ixN2, ifB, ifNB, Bool.not_true, Bool.not_false, Bool.false_eq_true, Bool.true_eq_false, if_true, if_false, ite_true, ite_false, true_and, and_true, or_true, true_or, or_false, false_or, false_and, and_false, String.reduceEq, eq_self, decide_true, decide_false, exIf, ne_eq, not_false_eq_true, Nat.zero_le, b_scan_15]
    simp (maxSteps := 400000) only [vSs, vS, vE, vEs, vT, vTo, vEo, vI, setV, slV, seqL', keyD, startD, endsOf, List.map_cons, List.map_nil, List.length_cons, List.length_nil, List.replicate, List.cons_append, List.nil_append, Nat.reduceAdd, Nat.reduceSub, Nat.reduceLeDiff, List.getElem?_cons_zero, List.getElem?_cons_succ, Option.some.injEq, exists_eq_left', exists_eq_left, exists_eq', exists_eq, bindT, bindTs, List.set_cons_zero, List.set_cons_succ, ixV, atI0, atI1, atI2, atI3, cmpV, cmpEq, cmpIs, fOp, fCmp, binV, augV, Bi.wp, Bi.val, truD, wipeR, slotsT, slotsTs, Int.cast_ofNat_Int, seqV, seqF, seqL, Option.map_some, Option.map_none, D.ref.injEq, D.int.injEq, D.bl.injEq, MO.lst.injEq, exists_and_left, exists_and_right, updM_same, updM_updM, viewR, viewD, viewDs, flatD, ixN0, ixN1, ixN2, ifB, ifNB, Bool.not_true, Bool.not_false, Bool.false_eq_true, Bool.true_eq_false, if_true, if_false, ite_true, ite_false, true_and, and_true, or_true, true_or, or_false, false_or, false_and, and_false, String.reduceEq, eq_self, decide_true, decide_false, exIf, ne_eq, not_false_eq_true, Nat.zero_le, b_scan_14]
    simp (maxSteps := 400000) only [vSs, vS, vE, vEs, vT, vTo, vEo, vI, setV, slV, seqL', keyD, startD, endsOf, List.map_cons, List.map_nil, List.length_cons, List.length_nil, List.replicate, List.cons_append, List.nil_append, Nat.reduceAdd, Nat.reduceSub, Nat.reduceLeDiff, List.getElem?_cons_zero, List.getElem?_cons_succ, Option.some.injEq, exists_eq_left', exists_eq_left, exists_eq', exists_eq, bindT, bindTs, List.set_cons_zero, List.set_cons_succ, ixV, atI0, atI1, atI2, atI3, cmpV, cmpEq, cmpIs, fOp, fCmp, binV, augV, Bi.wp, Bi.val, truD, wipeR, slotsT, slotsTs, Int.cast_ofNat_Int, seqV, seqF, seqL, Option.map_some, Option.map_none, D.ref.injEq, D.int.injEq, D.bl.injEq, MO.lst.injEq, exists_and_left, exists_and_right, updM_same, updM_updM, viewR, viewD, viewDs, flatD, ixN0, ixN1, ixN2, ifB, ifNB, Bool.not_true, Bool.not_false, Bool.false_eq_true, Bool.true_eq_false, if_true, if_false, ite_true, ite_false, true_and, and_true, or_true, true_or, or_false, false_or, false_and, and_false, String.reduceEq, eq_self, decide_true, decide_false, exIf, ne_eq, not_false_eq_true, Nat.zero_le, b_scan_13]
    rw [if_neg (fun h => by have := (one_eq e10).mp h; omega)]
    simp (maxSteps := 400000) only [vSs, vS, vE, vEs, vT, vTo, vEo, vI, setV, slV, seqL', keyD, startD, endsOf, List.map_cons, List.map_nil, List.length_cons, List.length_nil, List.replicate, List.cons_append, List.nil_append, Nat.reduceAdd, Nat.reduceSub, Nat.reduceLeDiff, List.getElem?_cons_zero, List.getElem?_cons_succ, Option.some.injEq, exists_eq_left', exists_eq_left, exists_eq', exists_eq, bindT, bindTs, List.set_cons_zero, List.set_cons_succ, ixV, atI0, atI1, atI2, atI3, cmpV, cmpEq, cmpIs, fOp, fCmp, binV, augV, Bi.wp, Bi.val, truD, wipeR, slotsT, slotsTs, Int.cast_ofNat_Int, seqV, seqF, seqL, Option.map_some, Option.map_none, D.ref.injEq, D.int.injEq, D.bl.injEq, MO.lst.injEq, exists_and_left, exists_and_right, updM_same, updM_updM, viewR, viewD, viewDs, flatD, ixN0, ixN1, ixN2, ifB, ifNB, Bool.not_true, Bool.not_false, Bool.false_eq_true, Bool.true_eq_false, if_true, if_false, ite_true, ite_false, true_and, and_true, or_true, true_or, or_false, false_or, false_and, and_false, String.reduceEq, eq_self, decide_true, decide_false, exIf, ne_eq, not_false_eq_true, Nat.zero_le, b_scan_11]
    rw [if_neg (fun h => by have := (one_eq e59).mp h; omega)]
    simp (maxSteps := 400000) only [vSs, vS, vE, vEs, vT, vTo, vEo, vI, setV, slV, seqL', keyD, startD, endsOf, List.map_cons, List.map_nil, List.length_cons, List.length_nil, List.replicate, List.cons_append, List.nil_append, Nat.reduceAdd, Nat.reduceSub, Nat.reduceLeDiff, List.getElem?_cons_zero, List.getElem?_cons_succ, Option.some.injEq, exists_eq_left', exists_eq_left, exists_eq', exists_eq, bindT, bindTs, List.set_cons_zero, List.set_cons_succ, ixV, atI0, atI1, atI2, atI3, cmpV, cmpEq, cmpIs, fOp, fCmp, binV, augV, Bi.wp, Bi.val, truD, wipeR, slotsT, slotsTs, Int.cast_ofNat_Int, seqV, seqF, seqL, Option.map_some, Option.map_none, D.ref.injEq, D.int.injEq, D.bl.injEq, MO.lst.injEq, exists_and_left, exists_and_right, updM_same, updM_updM, viewR, viewD, viewDs, flatD, ixN0, ixN1, ixN2, ifB, ifNB, Bool.not_true, Bool.not_false, Bool.false_eq_true, Bool.true_eq_false, if_true, if_false, ite_true, ite_false, true_and, and_true, or_true, true_or, or_false, false_or, false_and, and_false, String.reduceEq, eq_self, decide_true, decide_false, exIf, ne_eq, not_false_eq_true, Nat.zero_le, b_scan_10]
    refine ⟨_, inV_one, ?_⟩
    rw [decide_eq_false (by rw [epar]; simp; omega), if_neg Bool.false_ne_true]
    simp (maxSteps := 400000) only [vSs, vS, vE, vEs, vT, vTo, vEo, vI, setV, slV, seqL', keyD, startD, endsOf, List.map_cons, List.map_nil, List.length_cons, List.length_nil, List.replicate, List.cons_append, List.nil_append, Nat.reduceAdd, Nat.reduceSub, Nat.reduceLeDiff, List.getElem?_cons_zero, List.getElem?_cons_succ, Option.some.injEq, exists_eq_left', exists_eq_left, exists_eq', exists_eq, bindT, bindTs, List.set_cons_zero, List.set_cons_succ, ixV, atI0, atI1, atI2, atI3, cmpV, cmpEq, cmpIs, fOp, fCmp, binV, augV, Bi.wp, Bi.val, truD, wipeR, slotsT, slotsTs, Int.cast_ofNat_Int, seqV, seqF, seqL, Option.map_some, Option.map_none, D.ref.injEq, D.int.injEq, D.bl.injEq, MO.lst.injEq, exists_and_left, exists_and_right, updM_same, updM_updM, viewR, viewD, viewDs, flatD, ixN0, ixN1, ixN2, ifB, ifNB, Bool.not_true, Bool.not_false, Bool.false_eq_true, Bool.true_eq_false, if_true, if_false, ite_true, ite_false, true_and, and_true, or_true, true_or, or_false, false_or, false_and, and_false, String.reduceEq, eq_self, decide_true, decide_false, exIf, ne_eq, not_false_eq_true, Nat.zero_le, b_scan_9]
    refine ⟨_, inV_one, ?_⟩
    rw [decide_eq_false (by rw [egap]; simp; omega)]
    rw [if_neg Bool.false_ne_true]
    simp (maxSteps := 400000) only [vSs, vS, vE, vEs, vT, vTo, vEo, vI, setV, slV, seqL', keyD, startD, endsOf, List.map_cons, List.map_nil, List.length_cons, List.length_nil, List.replicate, List.cons_append, List.nil_append, Nat.reduceAdd, Nat.reduceSub, Nat.reduceLeDiff, List.getElem?_cons_zero, List.getElem?_cons_succ, Option.some.injEq, exists_eq_left', exists_eq_left, exists_eq', exists_eq, bindT, bindTs, List.set_cons_zero, List.set_cons_succ, ixV, atI0, atI1, atI2, atI3, cmpV, cmpEq, cmpIs, fOp, fCmp, binV, augV, Bi.wp, Bi.val, truD, wipeR, slotsT, slotsTs, Int.cast_ofNat_Int, seqV, seqF, seqL, Option.map_some, Option.map_none, D.ref.injEq, D.int.injEq, D.bl.injEq, MO.lst.injEq, exists_and_left, exists_and_right, updM_same, updM_updM, viewR, viewD, viewDs, flatD, ixN0, ixN1, ixN2, ifB, ifNB, Bool.not_true, Bool.not_false, Bool.false_eq_true, Bool.true_eq_false, if_true, if_false, ite_true, ite_false, true_and, and_true, or_true, true_or, or_false, false_or, false_and, and_false, String.reduceEq, eq_self, decide_true, decide_false, exIf, ne_eq, not_false_eq_true, Nat.zero_le, b_scan_8]
    refine ⟨x, at_, [], y :: r, rfl, hx, hd, nofun, fun z r' e => by rw [← (List.cons.inj e).1]; exact b7, ?_⟩
    simp (maxSteps := 400000) only [vSs, vS, vE, vEs, vT, vTo, vEo, vI, setV, slV, seqL', keyD, startD, endsOf, List.map_cons, List.map_nil, List.length_cons, List.length_nil, List.replicate, List.cons_append, List.nil_append, Nat.reduceAdd, Nat.reduceSub, Nat.reduceLeDiff, List.getElem?_cons_zero, List.getElem?_cons_succ, Option.some.injEq, exists_eq_left', exists_eq_left, exists_eq', exists_eq, bindT, bindTs, List.set_cons_zero, List.set_cons_succ, ixV, atI0, atI1, atI2, atI3, cmpV, cmpEq, cmpIs, fOp, fCmp, binV, augV, Bi.wp, Bi.val, truD, wipeR, slotsT, slotsTs, Int.cast_ofNat_Int, seqV, seqF, seqL, Option.map_some, Option.map_none, D.ref.injEq, D.int.injEq, D.bl.injEq, MO.lst.injEq, exists_and_left, exists_and_right, updM_same, updM_updM, viewR, viewD, viewDs, flatD, ixN0, ixN1, ixN2, ifB, ifNB, Bool.not_true, Bool.not_false, Bool.false_eq_true, Bool.true_eq_false, if_true, if_false, ite_true, ite_false, true_and, and_true, or_true, true_or, or_false, false_or, false_and, and_false, String.reduceEq, eq_self, decide_true, decide_false, exIf, ne_eq, not_false_eq_true, Nat.zero_le, b_scan_7]
    rw [if_pos (by simp)]
    simp (maxSteps := 400000) only [vSs, vS, vE, vEs, vT, vTo, vEo, vI, setV, slV, seqL', keyD, startD, endsOf, List.map_cons, List.map_nil, List.length_cons, List.length_nil, List.replicate, List.cons_append, List.nil_append, Nat.reduceAdd, Nat.reduceSub, Nat.reduceLeDiff, List.getElem?_cons_zero, List.getElem?_cons_succ, Option.some.injEq, exists_eq_left', exists_eq_left, exists_eq', exists_eq, bindT, bindTs, List.set_cons_zero, List.set_cons_succ, ixV, atI0, atI1, atI2, atI3, cmpV, cmpEq, cmpIs, fOp, fCmp, binV, augV, Bi.wp, Bi.val, truD, wipeR, slotsT, slotsTs, Int.cast_ofNat_Int, seqV, seqF, seqL, Option.map_some, Option.map_none, D.ref.injEq, D.int.injEq, D.bl.injEq, MO.lst.injEq, exists_and_left, exists_and_right, updM_same, updM_updM, viewR, viewD, viewDs, flatD, ixN0, ixN1, ixN2, ifB, ifNB, Bool.not_true, Bool.not_false, Bool.false_eq_true, Bool.true_eq_false, if_true, if_false, ite_true, ite_false, true_and, and_true, or_true, true_or, or_false, false_or, false_and, and_false, String.reduceEq, eq_self, decide_true, decide_false, exIf, ne_eq, not_false_eq_true, Nat.zero_le, b_scan_5]
    rw [← hc]
    exact ⟨_, te_some (p := (l, c)) hq.1 hq.2 (by decide), qE _ _ o.mv⟩
  | @nl r l c ts e h ih =>
    obtain ⟨n, ih⟩ := ih
    refine ⟨n + 1, fun at_ lb acc e5 e6 e7 M hd ha hc hn o q qE => vWhile_succ fun N hN => ?_⟩
    obtain ⟨h1, h2, h3⟩ := at_drop hd
    unfold scR
    simp (maxSteps := 400000) only [vSs, vS, vE, vEs, vT, vTo, vEo, vI, setV, slV, seqL', keyD, startD, endsOf, List.map_cons, List.map_nil, List.length_cons, List.length_nil, List.replicate, List.cons_append, List.nil_append, Nat.reduceAdd, Nat.reduceSub, Nat.reduceLeDiff, List.getElem?_cons_zero, List.getElem?_cons_succ, Option.some.injEq, exists_eq_left', exists_eq_left, exists_eq', exists_eq, bindT, bindTs, List.set_cons_zero, List.set_cons_succ, ixV, atI0, atI1, atI2, atI3, cmpV, cmpEq, cmpIs, fOp, fCmp, binV, augV, Bi.wp, Bi.val, truD, wipeR, slotsT, slotsTs, Int.cast_ofNat_Int, seqV, seqF, seqL, Option.map_some, Option.map_none, D.ref.injEq, D.int.injEq, D.bl.injEq, MO.lst.injEq, exists_and_left, exists_and_right, updM_same, updM_updM, viewR, viewD, viewDs, flatD, ixN0, ixN1, ixN2, ifB, ifNB, Bool.not_true, Bool.not_false, Bool.false_eq_true, Bool.true_eq_false, if_true, if_false, ite_true, ite_false, true_and, and_true, or_true, true_or, or_false, false_or, false_and, and_false, String.reduceEq, eq_self, decide_true, decide_false, exIf, ne_eq, not_false_eq_true, Nat.zero_le]
    refine ⟨by omega, ?_⟩
    rw [if_pos (by omega : (at_ : Int) < (x.length : Nat))]
    simp (maxSteps := 400000) only [vSs, vS, vE, vEs, vT, vTo, vEo, vI, setV, slV, seqL', keyD, startD, endsOf, List.map_cons, List.map_nil, List.length_cons, List.length_nil, List.replicate, List.cons_append, List.nil_append, Nat.reduceAdd, Nat.reduceSub, Nat.reduceLeDiff, List.getElem?_cons_zero, List.getElem?_cons_succ, Option.some.injEq, exists_eq_left', exists_eq_left, exists_eq', exists_eq, bindT, bindTs, List.set_cons_zero, List.set_cons_succ, ixV, atI0, atI1, atI2, atI3, cmpV, cmpEq, cmpIs, fOp, fCmp, binV, augV, Bi.wp, Bi.val, truD, wipeR, slotsT, slotsTs, Int.cast_ofNat_Int, seqV, seqF, seqL, Option.map_some, Option.map_none, D.ref.injEq, D.int.injEq, D.bl.injEq, MO.lst.injEq, exists_and_left, exists_and_right, updM_same, updM_updM, viewR, viewD, viewDs, flatD, ixN0, ixN1, ixN2, ifB, ifNB, Bool.not_true, Bool.not_false, Bool.false_eq_true, Bool.true_eq_false, if_true, if_false, ite_true, ite_false, true_and, and_true, or_true, true_or, or_false, false_or, false_and, and_false, String.reduceEq, eq_self, decide_true, decide_false, exIf, ne_eq, not_false_eq_true, Nat.zero_le, b_scan_16]
    refine ⟨_, ixV_at (M := M) (by omega) h2, ?_⟩
    simp (maxSteps := 400000) only [vSs, vS, vE, vEs, vT, vTo, vEo, vI, setV, slV, seqL', keyD, startD, endsOf, List.map_cons, List.map_nil, List.length_cons, List.length_nil, List.replicate, List.cons_append, List.nil_append, Nat.reduceAdd, Nat.reduceSub, Nat.reduceLeDiff, List.getElem?_cons_zero, List.getElem?_cons_succ, Option.some.injEq, exists_eq_left', exists_eq_left, exists_eq', exists_eq, bindT, bindTs, List.set_cons_zero, List.set_cons_succ, ixV, atI0, atI1, atI2, atI3, cmpV, cmpEq, cmpIs, fOp, fCmp, binV, augV, Bi.wp, Bi.val, truD, wipeR, slotsT, slotsTs, Int.cast_ofNat_Int, seqV, seqF, seqL, Option.map_some, Option.map_none, D.ref.injEq, D.int.injEq, D.bl.injEq, MO.lst.injEq, exists_and_left, exists_and_right, updM_same, updM_updM, viewR, viewD, viewDs, flatD, ixN0, ixN1, ixN2, ifB, ifNB, Bool.not_true, Bool.not_false, Bool.false_eq_true, Bool.true_eq_false, if_true, if_false, ite_true, ite_false, true_and, and_true, or_true, true_or, or_false, false_or, false_and, and_false, String.reduceEq, eq_self, decide_true, decide_false, exIf, ne_eq, not_false_eq_true, Nat.zero_le, b_scan_15]
    simp (maxSteps := 400000) only [vSs, vS, vE, vEs, vT, vTo, vEo, vI, setV, slV, seqL', keyD, startD, endsOf, List.map_cons, List.map_nil, List.length_cons, List.length_nil, List.replicate, List.cons_append, List.nil_append, Nat.reduceAdd, Nat.reduceSub, Nat.reduceLeDiff, List.getElem?_cons_zero, List.getElem?_cons_succ, Option.some.injEq, exists_eq_left', exists_eq_left, exists_eq', exists_eq, bindT, bindTs, List.set_cons_zero, List.set_cons_succ, ixV, atI0, atI1, atI2, atI3, cmpV, cmpEq, cmpIs, fOp, fCmp, binV, augV, Bi.wp, Bi.val, truD, wipeR, slotsT, slotsTs, Int.cast_ofNat_Int, seqV, seqF, seqL, Option.map_some, Option.map_none, D.ref.injEq, D.int.injEq, D.bl.injEq, MO.lst.injEq, exists_and_left, exists_and_right, updM_same, updM_updM, viewR, viewD, viewDs, flatD, ixN0, ixN1, ixN2, ifB, ifNB, Bool.not_true, Bool.not_false, Bool.false_eq_true, Bool.true_eq_false, if_true, if_false, ite_true, ite_false, true_and, and_true, or_true, true_or, or_false, false_or, false_and, and_false, String.reduceEq, eq_self, decide_true, decide_false, exIf, ne_eq, not_false_eq_true, Nat.zero_le, b_scan_14]
    simp (maxSteps := 400000) only [vSs, vS, vE, vEs, vT, vTo, vEo, vI, setV, slV, seqL', keyD, startD, endsOf, List.map_cons, List.map_nil, List.length_cons, List.length_nil, List.replicate, List.cons_append, List.nil_append, Nat.reduceAdd, Nat.reduceSub, Nat.reduceLeDiff, List.getElem?_cons_zero, List.getElem?_cons_succ, Option.some.injEq, exists_eq_left', exists_eq_left, exists_eq', exists_eq, bindT, bindTs, List.set_cons_zero, List.set_cons_succ, ixV, atI0, atI1, atI2, atI3, cmpV, cmpEq, cmpIs, fOp, fCmp, binV, augV, Bi.wp, Bi.val, truD, wipeR, slotsT, slotsTs, Int.cast_ofNat_Int, seqV, seqF, seqL, Option.map_some, Option.map_none, D.ref.injEq, D.int.injEq, D.bl.injEq, MO.lst.injEq, exists_and_left, exists_and_right, updM_same, updM_updM, viewR, viewD, viewDs, flatD, ixN0, ixN1, ixN2, ifB, ifNB, Bool.not_true, Bool.not_false, Bool.false_eq_true, Bool.true_eq_false, if_true, if_false, ite_true, ite_false, true_and, and_true, or_true, true_or, or_false, false_or, false_and, and_false, String.reduceEq, eq_self, decide_true, decide_false, exIf, ne_eq, not_false_eq_true, Nat.zero_le, b_scan_13]
    rw [if_pos ((one_eq e10).mpr rfl)]
    simp (maxSteps := 400000) only [vSs, vS, vE, vEs, vT, vTo, vEo, vI, setV, slV, seqL', keyD, startD, endsOf, List.map_cons, List.map_nil, List.length_cons, List.length_nil, List.replicate, List.cons_append, List.nil_append, Nat.reduceAdd, Nat.reduceSub, Nat.reduceLeDiff, List.getElem?_cons_zero, List.getElem?_cons_succ, Option.some.injEq, exists_eq_left', exists_eq_left, exists_eq', exists_eq, bindT, bindTs, List.set_cons_zero, List.set_cons_succ, ixV, atI0, atI1, atI2, atI3, cmpV, cmpEq, cmpIs, fOp, fCmp, binV, augV, Bi.wp, Bi.val, truD, wipeR, slotsT, slotsTs, Int.cast_ofNat_Int, seqV, seqF, seqL, Option.map_some, Option.map_none, D.ref.injEq, D.int.injEq, D.bl.injEq, MO.lst.injEq, exists_and_left, exists_and_right, updM_same, updM_updM, viewR, viewD, viewDs, flatD, ixN0, ixN1, ixN2, ifB, ifNB, Bool.not_true, Bool.not_false, Bool.false_eq_true, Bool.true_eq_false, if_true, if_false, ite_true, ite_false, true_and, and_true, or_true, true_or, or_false, false_or, false_and, and_false, String.reduceEq, eq_self, decide_true, decide_false, exIf, ne_eq, not_false_eq_true, Nat.zero_le, b_scan_2]
    simp (maxSteps := 400000) only [vSs, vS, vE, vEs, vT, vTo, vEo, vI, setV, slV, seqL', keyD, startD, endsOf, List.map_cons, List.map_nil, List.length_cons, List.length_nil, List.replicate, List.cons_append, List.nil_append, Nat.reduceAdd, Nat.reduceSub, Nat.reduceLeDiff, List.getElem?_cons_zero, List.getElem?_cons_succ, Option.some.injEq, exists_eq_left', exists_eq_left, exists_eq', exists_eq, bindT, bindTs, List.set_cons_zero, List.set_cons_succ, ixV, atI0, atI1, atI2, atI3, cmpV, cmpEq, cmpIs, fOp, fCmp, binV, augV, Bi.wp, Bi.val, truD, wipeR, slotsT, slotsTs, Int.cast_ofNat_Int, seqV, seqF, seqL, Option.map_some, Option.map_none, D.ref.injEq, D.int.injEq, D.bl.injEq, MO.lst.injEq, exists_and_left, exists_and_right, updM_same, updM_updM, viewR, viewD, viewDs, flatD, ixN0, ixN1, ixN2, ifB, ifNB, Bool.not_true, Bool.not_false, Bool.false_eq_true, Bool.true_eq_false, if_true, if_false, ite_true, ite_false, true_and, and_true, or_true, true_or, or_false, false_or, false_and, and_false, String.reduceEq, eq_self, decide_true, decide_false, exIf, ne_eq, not_false_eq_true, Nat.zero_le, b_scan_1]
    simp (maxSteps := 400000) only [vSs, vS, vE, vEs, vT, vTo, vEo, vI, setV, slV, seqL', keyD, startD, endsOf, List.map_cons, List.map_nil, List.length_cons, List.length_nil, List.replicate, List.cons_append, List.nil_append, Nat.reduceAdd, Nat.reduceSub, Nat.reduceLeDiff, List.getElem?_cons_zero, List.getElem?_cons_succ, Option.some.injEq, exists_eq_left', exists_eq_left, exists_eq', exists_eq, bindT, bindTs, List.set_cons_zero, List.set_cons_succ, ixV, atI0, atI1, atI2, atI3, cmpV, cmpEq, cmpIs, fOp, fCmp, binV, augV, Bi.wp, Bi.val, truD, wipeR, slotsT, slotsTs, Int.cast_ofNat_Int, seqV, seqF, seqL, Option.map_some, Option.map_none, D.ref.injEq, D.int.injEq, D.bl.injEq, MO.lst.injEq, exists_and_left, exists_and_right, updM_same, updM_updM, viewR, viewD, viewDs, flatD, ixN0, ixN1, ixN2, ifB, ifNB, Bool.not_true, Bool.not_false, Bool.false_eq_true, Bool.true_eq_false, if_true, if_false, ite_true, ite_false, true_and, and_true, or_true, true_or, or_false, false_or, false_and, and_false, String.reduceEq, eq_self, decide_true, decide_false, exIf, ne_eq, not_false_eq_true, Nat.zero_le, b_scan_12]
    exact hN _ _ (ih (at_ + 1) (at_ + 1) acc _ _ _ M h3 h1 (by omega) (by omega) o q qE)
  | @rem p r l c ts e hp hr h ih =>
    obtain ⟨n, ih⟩ := ih
    refine ⟨n + 1, fun at_ lb acc e5 e6 e7 M hd ha hc hn o q qE => vWhile_succ fun N hN => ?_⟩
    obtain ⟨h1, h2, h3⟩ := at_drop hd
    have hd2 : (tx x).drop at_ = (59 :: p) ++ r := by rw [hd]; rfl
    have hlen : at_ + (59 :: p).length ≤ x.length := by
      have := congrArg List.length hd2
      rw [List.length_drop, List.length_append, ← tx_len] at this
      have : 0 < (59 :: p).length := by simp
      omega
    unfold scR
    simp (maxSteps := 400000) only [vSs, vS, vE, vEs, vT, vTo, vEo, vI, setV, slV, seqL', keyD, startD, endsOf, List.map_cons, List.map_nil, List.length_cons, List.length_nil, List.replicate, List.cons_append, List.nil_append, Nat.reduceAdd, Nat.reduceSub, Nat.reduceLeDiff, List.getElem?_cons_zero, List.getElem?_cons_succ, Option.some.injEq, exists_eq_left', exists_eq_left, exists_eq', exists_eq, bindT, bindTs, List.set_cons_zero, List.set_cons_succ, ixV, atI0, atI1, atI2, atI3, cmpV, cmpEq, cmpIs, fOp, fCmp, binV, augV, Bi.wp, Bi.val, truD, wipeR, slotsT, slotsTs, Int.cast_ofNat_Int, seqV, seqF, seqL, Option.map_some, Option.map_none, D.ref.injEq, D.int.injEq, D.bl.injEq, MO.lst.injEq, exists_and_left, exists_and_right, updM_same, updM_updM, viewR, viewD, viewDs, flatD, ixN0, ixN1, ixN2, ifB, ifNB, Bool.not_true, Bool.not_false, Bool.false_eq_true, Bool.true_eq_false, if_true, if_false, ite_true, ite_false, true_and, and_true, or_true, true_or, or_false, false_or, false_and, and_false, String.reduceEq, eq_self, decide_true, decide_false, exIf, ne_eq, not_false_eq_true, Nat.zero_le]
    refine ⟨by omega, ?_⟩
    rw [if_pos (by omega : (at_ : Int) < (x.length : Nat))]
    simp (maxSteps := 400000) only [vSs, vS, vE, vEs, vT, vTo, vEo, vI, setV, slV, seqL', keyD, startD, endsOf, List.map_cons, List.map_nil, List.length_cons, List.length_nil, List.replicate, List.cons_append, List.nil_append, Nat.reduceAdd, Nat.reduceSub, Nat.reduceLeDiff, List.getElem?_cons_zero, List.getElem?_cons_succ, Option.some.injEq, exists_eq_left', exists_eq_left, exists_eq', exists_eq, bindT, bindTs, List.set_cons_zero, List.set_cons_succ, ixV, atI0, atI1, atI2, atI3, cmpV, cmpEq, cmpIs, fOp, fCmp, binV, augV, Bi.wp, Bi.val, truD, wipeR, slotsT, slotsTs, Int.cast_ofNat_Int, seqV, seqF, seqL, Option.map_some, Option.map_none, D.ref.injEq, D.int.injEq, D.bl.injEq, MO.lst.injEq, exists_and_left, exists_and_right, updM_same, updM_updM, viewR, viewD, viewDs, flatD, ixN0, ixN1, ixN2, ifB, ifNB, Bool.not_true, Bool.not_false, Bool.false_eq_true, Bool.true_eq_false, if_true, if_false, ite_true, ite_false, true_and, and_true, or_true, true_or, or_false, false_or, false_and, and_false, String.reduceEq, eq_self, decide_true, decide_false, exIf, ne_eq, not_false_eq_true, Nat.zero_le, b_scan_16]
    refine ⟨_, ixV_at (M := M) (by omega) h2, ?_⟩
    simp (maxSteps := 400000) only [vSs, vS, vE, vEs, vT, vTo, vEo, vI, setV, slV, seqL', keyD, startD, endsOf, List.map_cons, List.map_nil, List.length_cons, List.length_nil, List.replicate, List.cons_append, List.nil_append, Nat.reduceAdd, Nat.reduceSub, Nat.reduceLeDiff, List.getElem?_cons_zero, List.getElem?_cons_succ, Option.some.injEq, exists_eq_left', exists_eq_left, exists_eq', exists_eq, bindT, bindTs, List.set_cons_zero, List.set_cons_succ, ixV, atI0, atI1, atI2, atI3, cmpV, cmpEq, cmpIs, fOp, fCmp, binV, augV, Bi.wp, Bi.val, truD, wipeR, slotsT, slotsTs, Int.cast_ofNat_Int, seqV, seqF, seqL, Option.map_some, Option.map_none, D.ref.injEq, D.int.injEq, D.bl.injEq, MO.lst.injEq, exists_and_left, exists_and_right, updM_same, updM_updM, viewR, viewD, viewDs, flatD, ixN0, ixN1, ixN2, ifB, ifNB, Bool.not_true, Bool.not_false, Bool.false_eq_true, Bool.true_eq_false, if_true, if_false, ite_true, ite_false, true_and, and_true, or_true, true_or, or_false, false_or, false_and, and_false, String.reduceEq, eq_self, decide_true, decide_false, exIf, ne_eq, not_false_eq_true, Nat.zero_le, b_scan_15]
    simp (maxSteps := 400000) only [vSs, vS, vE, vEs, vT, vTo, vEo, vI, setV, slV, seqL', keyD, startD, endsOf, List.map_cons, List.map_nil, List.length_cons, List.length_nil, List.replicate, List.cons_append, List.nil_append, Nat.reduceAdd, Nat.reduceSub, Nat.reduceLeDiff, List.getElem?_cons_zero, List.getElem?_cons_succ, Option.some.injEq, exists_eq_left', exists_eq_left, exists_eq', exists_eq, bindT, bindTs, List.set_cons_zero, List.set_cons_succ, ixV, atI0, atI1, atI2, atI3, cmpV, cmpEq, cmpIs, fOp, fCmp, binV, augV, Bi.wp, Bi.val, truD, wipeR, slotsT, slotsTs, Int.cast_ofNat_Int, seqV, seqF, seqL, Option.map_some, Option.map_none, D.ref.injEq, D.int.injEq, D.bl.injEq, MO.lst.injEq, exists_and_left, exists_and_right, updM_same, updM_updM, viewR, viewD, viewDs, flatD, ixN0, ixN1, ixN2, ifB, ifNB, Bool.not_true, Bool.not_false, Bool.false_eq_true, Bool.true_eq_false, if_true, if_false, ite_true, ite_false, true_and, and_true, or_true, true_or, or_false, false_or, false_and, and_false, String.reduceEq, eq_self, decide_true, decide_false, exIf, ne_eq, not_false_eq_true, Nat.zero_le, b_scan_14]
    simp (maxSteps := 400000) only [vSs, vS, vE, vEs, vT, vTo, vEo, vI, setV, slV, seqL', keyD, startD, endsOf, List.map_cons, List.map_nil, List.length_cons, List.length_nil, List.replicate, List.cons_append, List.nil_append, Nat.reduceAdd, Nat.reduceSub, Nat.reduceLeDiff, List.getElem?_cons_zero, List.getElem?_cons_succ, Option.some.injEq, exists_eq_left', exists_eq_left, exists_eq', exists_eq, bindT, bindTs, List.set_cons_zero, List.set_cons_succ, ixV, atI0, atI1, atI2, atI3, cmpV, cmpEq, cmpIs, fOp, fCmp, binV, augV, Bi.wp, Bi.val, truD, wipeR, slotsT, slotsTs, Int.cast_ofNat_Int, seqV, seqF, seqL, Option.map_some, Option.map_none, D.ref.injEq, D.int.injEq, D.bl.injEq, MO.lst.injEq, exists_and_left, exists_and_right, updM_same, updM_updM, viewR, viewD, viewDs, flatD, ixN0, ixN1, ixN2, ifB, ifNB, Bool.not_true, Bool.not_false, Bool.false_eq_true, Bool.true_eq_false, if_true, if_false, ite_true, ite_false, true_and, and_true, or_true, true_or, or_false, false_or, false_and, and_false, String.reduceEq, eq_self, decide_true, decide_false, exIf, ne_eq, not_false_eq_true, Nat.zero_le, b_scan_13]
    rw [if_neg (fun h => by have := (one_eq e10).mp h; omega)]
    simp (maxSteps := 400000) only [vSs, vS, vE, vEs, vT, vTo, vEo, vI, setV, slV, seqL', keyD, startD, endsOf, List.map_cons, List.map_nil, List.length_cons, List.length_nil, List.replicate, List.cons_append, List.nil_append, Nat.reduceAdd, Nat.reduceSub, Nat.reduceLeDiff, List.getElem?_cons_zero, List.getElem?_cons_succ, Option.some.injEq, exists_eq_left', exists_eq_left, exists_eq', exists_eq, bindT, bindTs, List.set_cons_zero, List.set_cons_succ, ixV, atI0, atI1, atI2, atI3, cmpV, cmpEq, cmpIs, fOp, fCmp, binV, augV, Bi.wp, Bi.val, truD, wipeR, slotsT, slotsTs, Int.cast_ofNat_Int, seqV, seqF, seqL, Option.map_some, Option.map_none, D.ref.injEq, D.int.injEq, D.bl.injEq, MO.lst.injEq, exists_and_left, exists_and_right, updM_same, updM_updM, viewR, viewD, viewDs, flatD, ixN0, ixN1, ixN2, ifB, ifNB, Bool.not_true, Bool.not_false, Bool.false_eq_true, Bool.true_eq_false, if_true, if_false, ite_true, ite_false, true_and, and_true, or_true, true_or, or_false, false_or, false_and, and_false, String.reduceEq, eq_self, decide_true, decide_false, exIf, ne_eq, not_false_eq_true, Nat.zero_le, b_scan_11]
    rw [if_pos ((one_eq e59).mpr rfl)]
    simp (maxSteps := 400000) only [vSs, vS, vE, vEs, vT, vTo, vEo, vI, setV, slV, seqL', keyD, startD, endsOf, List.map_cons, List.map_nil, List.length_cons, List.length_nil, List.replicate, List.cons_append, List.nil_append, Nat.reduceAdd, Nat.reduceSub, Nat.reduceLeDiff, List.getElem?_cons_zero, List.getElem?_cons_succ, Option.some.injEq, exists_eq_left', exists_eq_left, exists_eq', exists_eq, bindT, bindTs, List.set_cons_zero, List.set_cons_succ, ixV, atI0, atI1, atI2, atI3, cmpV, cmpEq, cmpIs, fOp, fCmp, binV, augV, Bi.wp, Bi.val, truD, wipeR, slotsT, slotsTs, Int.cast_ofNat_Int, seqV, seqF, seqL, Option.map_some, Option.map_none, D.ref.injEq, D.int.injEq, D.bl.injEq, MO.lst.injEq, exists_and_left, exists_and_right, updM_same, updM_updM, viewR, viewD, viewDs, flatD, ixN0, ixN1, ixN2, ifB, ifNB, Bool.not_true, Bool.not_false, Bool.false_eq_true, Bool.true_eq_false, if_true, if_false, ite_true, ite_false, true_and, and_true, or_true, true_or, or_false, false_or, false_and, and_false, String.reduceEq, eq_self, decide_true, decide_false, exIf, ne_eq, not_false_eq_true, Nat.zero_le, b_scan_3]
    refine ⟨x, at_, 59 :: p, r, rfl, hx, ha, hd2, by simp [hp], hr, ?_⟩
    simp (maxSteps := 400000) only [vSs, vS, vE, vEs, vT, vTo, vEo, vI, setV, slV, seqL', keyD, startD, endsOf, List.map_cons, List.map_nil, List.length_cons, List.length_nil, List.replicate, List.cons_append, List.nil_append, Nat.reduceAdd, Nat.reduceSub, Nat.reduceLeDiff, List.getElem?_cons_zero, List.getElem?_cons_succ, Option.some.injEq, exists_eq_left', exists_eq_left, exists_eq', exists_eq, bindT, bindTs, List.set_cons_zero, List.set_cons_succ, ixV, atI0, atI1, atI2, atI3, cmpV, cmpEq, cmpIs, fOp, fCmp, binV, augV, Bi.wp, Bi.val, truD, wipeR, slotsT, slotsTs, Int.cast_ofNat_Int, seqV, seqF, seqL, Option.map_some, Option.map_none, D.ref.injEq, D.int.injEq, D.bl.injEq, MO.lst.injEq, exists_and_left, exists_and_right, updM_same, updM_updM, viewR, viewD, viewDs, flatD, ixN0, ixN1, ixN2, ifB, ifNB, Bool.not_true, Bool.not_false, Bool.false_eq_true, Bool.true_eq_false, if_true, if_false, ite_true, ite_false, true_and, and_true, or_true, true_or, or_false, false_or, false_and, and_false, String.reduceEq, eq_self, decide_true, decide_false, exIf, ne_eq, not_false_eq_true, Nat.zero_le, b_scan_12]
    refine hN _ _ (ih (at_ + (59 :: p).length) lb acc _ _ _ M ?_ hlen (by simp; omega) (by omega) o q qE)
    rw [← List.drop_drop, hd2, List.drop_left]
  | @par y r l c ts e hy h ih =>
    obtain ⟨n, ih⟩ := ih
    refine ⟨n + 1, fun at_ lb acc e5 e6 e7 M hd ha hc hn o q qE => vWhile_succ fun N hN => ?_⟩
    obtain ⟨h1, h2, h3⟩ := at_drop hd
    unfold scR
    simp (maxSteps := 400000) only [vSs, vS, vE, vEs, vT, vTo, vEo, vI, setV, slV, seqL', keyD, startD, endsOf, List.map_cons, List.map_nil, List.length_cons, List.length_nil, List.replicate, List.cons_append, List.nil_append, Nat.reduceAdd, Nat.reduceSub, Nat.reduceLeDiff, List.getElem?_cons_zero, List.getElem?_cons_succ, Option.some.injEq, exists_eq_left', exists_eq_left, exists_eq', exists_eq, bindT, bindTs, List.set_cons_zero, List.set_cons_succ, ixV, atI0, atI1, atI2, atI3, cmpV, cmpEq, cmpIs, fOp, fCmp, binV, augV, Bi.wp, Bi.val, truD, wipeR, slotsT, slotsTs, Int.cast_ofNat_Int, seqV, seqF, seqL, Option.map_some, Option.map_none, D.ref.injEq, D.int.injEq, D.bl.injEq, MO.lst.injEq, exists_and_left, exists_and_right, updM_same, updM_updM, viewR, viewD, viewDs, flatD, ixN0, ixN1, ixN2, ifB, ifNB, Bool.not_true, Bool.not_false, Bool.false_eq_true, Bool.true_eq_false, if_true, if_false, ite_true, ite_false, true_and, and_true, or_true, true_or, or_false, false_or, false_and, and_false, String.reduceEq, eq_self, decide_true, decide_false, exIf, ne_eq, not_false_eq_true, Nat.zero_le]
    refine ⟨by omega, ?_⟩
    rw [if_pos (by omega : (at_ : Int) < (x.length : Nat))]
    simp (maxSteps := 400000) only [vSs, vS, vE, vEs, vT, vTo, vEo, vI, setV, slV, seqL', keyD, startD, endsOf, List.map_cons, List.map_nil, List.length_cons, List.length_nil, List.replicate, List.cons_append, List.nil_append, Nat.reduceAdd, Nat.reduceSub, Nat.reduceLeDiff, List.getElem?_cons_zero, List.getElem?_cons_succ, Option.some.injEq, exists_eq_left', exists_eq_left, exists_eq', exists_eq, bindT, bindTs, List.set_cons_zero, List.set_cons_succ, ixV, atI0, atI1, atI2, atI3, cmpV, cmpEq, cmpIs, fOp, fCmp, binV, augV, Bi.wp, Bi.val, truD, wipeR, slotsT, slotsTs, Int.cast_ofNat_Int, seqV, seqF, seqL, Option.map_some, Option.map_none, D.ref.injEq, D.int.injEq, D.bl.injEq, MO.lst.injEq, exists_and_left, exists_and_right, updM_same, updM_updM, viewR, viewD, viewDs, flatD, ixN0, ixN1, ixN2, ifB, ifNB, Bool.not_true, Bool.not_false, Bool.false_eq_true, Bool.true_eq_false, if_true, if_false, ite_true, ite_false, true_and, and_true, or_true, true_or, or_false, false_or, false_and, and_false, String.reduceEq, eq_self, decide_true, decide_false, exIf, ne_eq, not_false_eq_true, Nat.zero_le, b_scan_16]
    refine ⟨_, ixV_at (M := M) (by omega) h2, ?_⟩
    simp (maxSteps := 400000) only [vSs, vS, vE, vEs, vT, vTo, vEo, vI, setV, slV, seqL', keyD, startD, endsOf, List.map_cons, List.map_nil, List.length_cons, List.length_nil, List.replicate, List.cons_append, List.nil_append, Nat.reduceAdd, Nat.reduceSub, Nat.reduceLeDiff, List.getElem?_cons_zero, List.getElem?_cons_succ, Option.some.injEq, exists_eq_left', exists_eq_left, exists_eq', exists_eq, bindT, bindTs, List.set_cons_zero, List.set_cons_succ, ixV, atI0, atI1, atI2, atI3, cmpV, cmpEq, cmpIs, fOp, fCmp, binV, augV, Bi.wp, Bi.val, truD, wipeR, slotsT, slotsTs, Int.cast_ofNat_Int, seqV, seqF, seqL, Option.map_some, Option.map_none, D.ref.injEq, D.int.injEq, D.bl.injEq, MO.lst.injEq, exists_and_left, exists_and_right, updM_same, updM_updM, viewR, viewD, viewDs, flatD, ixN0, ixN1, ixN2, ifB, ifNB, Bool.not_true, Bool.not_false, Bool.false_eq_true, Bool.true_eq_false, if_true, if_false, ite_true, ite_false, true_and, and_true, or_true, true_or, or_false, false_or, false_and, and_false, String.reduceEq, eq_self, decide_true, decide_false, exIf, ne_eq, not_false_eq_true, Nat.zero_le, b_scan_15]
    simp (maxSteps := 400000) only [vSs, vS, vE, vEs, vT, vTo, vEo, vI, setV, slV, seqL', keyD, startD, endsOf, List.map_cons, List.map_nil, List.length_cons, List.length_nil, List.replicate, List.cons_append, List.nil_append, Nat.reduceAdd, Nat.reduceSub, Nat.reduceLeDiff, List.getElem?_cons_zero, List.getElem?_cons_succ, Option.some.injEq, exists_eq_left', exists_eq_left, exists_eq', exists_eq, bindT, bindTs, List.set_cons_zero, List.set_cons_succ, ixV, atI0, atI1, atI2, atI3, cmpV, cmpEq, cmpIs, fOp, fCmp, binV, augV, Bi.wp, Bi.val, truD, wipeR, slotsT, slotsTs, Int.cast_ofNat_Int, seqV, seqF, seqL, Option.map_some, Option.map_none, D.ref.injEq, D.int.injEq, D.bl.injEq, MO.lst.injEq, exists_and_left, exists_and_right, updM_same, updM_updM, viewR, viewD, viewDs, flatD, ixN0, ixN1, ixN2, ifB, ifNB, Bool.not_true, Bool.not_false, Bool.false_eq_true, Bool.true_eq_false, if_true, if_false, ite_true, ite_false, true_and, and_true, or_true, true_or, or_false, false_or, false_and, and_false, String.reduceEq, eq_self, decide_true, decide_false, exIf, ne_eq, not_false_eq_true, Nat.zero_le, b_scan_14]
    simp (maxSteps := 400000) only [vSs, vS, vE, vEs, vT, vTo, vEo, vI, setV, slV, seqL', keyD, startD, endsOf, List.map_cons, List.map_nil, List.length_cons, List.length_nil, List.replicate, List.cons_append, List.nil_append, Nat.reduceAdd, Nat.reduceSub, Nat.reduceLeDiff, List.getElem?_cons_zero, List.getElem?_cons_succ, Option.some.injEq, exists_eq_left', exists_eq_left, exists_eq', exists_eq, bindT, bindTs, List.set_cons_zero, List.set_cons_succ, ixV, atI0, atI1, atI2, atI3, cmpV, cmpEq, cmpIs, fOp, fCmp, binV, augV, Bi.wp, Bi.val, truD, wipeR, slotsT, slotsTs, Int.cast_ofNat_Int, seqV, seqF, seqL, Option.map_some, Option.map_none, D.ref.injEq, D.int.injEq, D.bl.injEq, MO.lst.injEq, exists_and_left, exists_and_right, updM_same, updM_updM, viewR, viewD, viewDs, flatD, ixN0, ixN1, ixN2, ifB, ifNB, Bool.not_true, Bool.not_false, Bool.false_eq_true, Bool.true_eq_false, if_true, if_false, ite_true, ite_false, true_and, and_true, or_true, true_or, or_false, false_or, false_and, and_false, String.reduceEq, eq_self, decide_true, decide_false, exIf, ne_eq, not_false_eq_true, Nat.zero_le, b_scan_13]
    rw [if_neg (fun h => by have := (one_eq e10).mp h; omega)]
    simp (maxSteps := 400000) only [vSs, vS, vE, vEs, vT, vTo, vEo, vI, setV, slV, seqL', keyD, startD, endsOf, List.map_cons, List.map_nil, List.length_cons, List.length_nil, List.replicate, List.cons_append, List.nil_append, Nat.reduceAdd, Nat.reduceSub, Nat.reduceLeDiff, List.getElem?_cons_zero, List.getElem?_cons_succ, Option.some.injEq, exists_eq_left', exists_eq_left, exists_eq', exists_eq, bindT, bindTs, List.set_cons_zero, List.set_cons_succ, ixV, atI0, atI1, atI2, atI3, cmpV, cmpEq, cmpIs, fOp, fCmp, binV, augV, Bi.wp, Bi.val, truD, wipeR, slotsT, slotsTs, Int.cast_ofNat_Int, seqV, seqF, seqL, Option.map_some, Option.map_none, D.ref.injEq, D.int.injEq, D.bl.injEq, MO.lst.injEq, exists_and_left, exists_and_right, updM_same, updM_updM, viewR, viewD, viewDs, flatD, ixN0, ixN1, ixN2, ifB, ifNB, Bool.not_true, Bool.not_false, Bool.false_eq_true, Bool.true_eq_false, if_true, if_false, ite_true, ite_false, true_and, and_true, or_true, true_or, or_false, false_or, false_and, and_false, String.reduceEq, eq_self, decide_true, decide_false, exIf, ne_eq, not_false_eq_true, Nat.zero_le, b_scan_11]
    rw [if_neg (fun h => by have := (one_eq e59).mp h; omega)]
    simp (maxSteps := 400000) only [vSs, vS, vE, vEs, vT, vTo, vEo, vI, setV, slV, seqL', keyD, startD, endsOf, List.map_cons, List.map_nil, List.length_cons, List.length_nil, List.replicate, List.cons_append, List.nil_append, Nat.reduceAdd, Nat.reduceSub, Nat.reduceLeDiff, List.getElem?_cons_zero, List.getElem?_cons_succ, Option.some.injEq, exists_eq_left', exists_eq_left, exists_eq', exists_eq, bindT, bindTs, List.set_cons_zero, List.set_cons_succ, ixV, atI0, atI1, atI2, atI3, cmpV, cmpEq, cmpIs, fOp, fCmp, binV, augV, Bi.wp, Bi.val, truD, wipeR, slotsT, slotsTs, Int.cast_ofNat_Int, seqV, seqF, seqL, Option.map_some, Option.map_none, D.ref.injEq, D.int.injEq, D.bl.injEq, MO.lst.injEq, exists_and_left, exists_and_right, updM_same, updM_updM, viewR, viewD, viewDs, flatD, ixN0, ixN1, ixN2, ifB, ifNB, Bool.not_true, Bool.not_false, Bool.false_eq_true, Bool.true_eq_false, if_true, if_false, ite_true, ite_false, true_and, and_true, or_true, true_or, or_false, false_or, false_and, and_false, String.reduceEq, eq_self, decide_true, decide_false, exIf, ne_eq, not_false_eq_true, Nat.zero_le, b_scan_10]
    refine ⟨_, inV_one, ?_⟩
    rw [decide_eq_true (by rw [epar]; simp; exact hy), if_pos rfl]
    simp (maxSteps := 400000) only [vSs, vS, vE, vEs, vT, vTo, vEo, vI, setV, slV, seqL', keyD, startD, endsOf, List.map_cons, List.map_nil, List.length_cons, List.length_nil, List.replicate, List.cons_append, List.nil_append, Nat.reduceAdd, Nat.reduceSub, Nat.reduceLeDiff, List.getElem?_cons_zero, List.getElem?_cons_succ, Option.some.injEq, exists_eq_left', exists_eq_left, exists_eq', exists_eq, bindT, bindTs, List.set_cons_zero, List.set_cons_succ, ixV, atI0, atI1, atI2, atI3, cmpV, cmpEq, cmpIs, fOp, fCmp, binV, augV, Bi.wp, Bi.val, truD, wipeR, slotsT, slotsTs, Int.cast_ofNat_Int, seqV, seqF, seqL, Option.map_some, Option.map_none, D.ref.injEq, D.int.injEq, D.bl.injEq, MO.lst.injEq, exists_and_left, exists_and_right, updM_same, updM_updM, viewR, viewD, viewDs, flatD, ixN0, ixN1, ixN2, ifB, ifNB, Bool.not_true, Bool.not_false, Bool.false_eq_true, Bool.true_eq_false, if_true, if_false, ite_true, ite_false, true_and, and_true, or_true, true_or, or_false, false_or, false_and, and_false, String.reduceEq, eq_self, decide_true, decide_false, exIf, ne_eq, not_false_eq_true, Nat.zero_le, b_scan_4, o.at']
    refine ⟨by simp; omega, ?_⟩
    simp (maxSteps := 400000) only [vSs, vS, vE, vEs, vT, vTo, vEo, vI, setV, slV, seqL', keyD, startD, endsOf, List.map_cons, List.map_nil, List.length_cons, List.length_nil, List.replicate, List.cons_append, List.nil_append, Nat.reduceAdd, Nat.reduceSub, Nat.reduceLeDiff, List.getElem?_cons_zero, List.getElem?_cons_succ, Option.some.injEq, exists_eq_left', exists_eq_left, exists_eq', exists_eq, bindT, bindTs, List.set_cons_zero, List.set_cons_succ, ixV, atI0, atI1, atI2, atI3, cmpV, cmpEq, cmpIs, fOp, fCmp, binV, augV, Bi.wp, Bi.val, truD, wipeR, slotsT, slotsTs, Int.cast_ofNat_Int, seqV, seqF, seqL, Option.map_some, Option.map_none, D.ref.injEq, D.int.injEq, D.bl.injEq, MO.lst.injEq, exists_and_left, exists_and_right, updM_same, updM_updM, viewR, viewD, viewDs, flatD, ixN0, ixN1, ixN2, ifB, ifNB, Bool.not_true, Bool.not_false, Bool.false_eq_true, Bool.true_eq_false, if_true, if_false, ite_true, ite_false, true_and, and_true, or_true, true_or, or_false, false_or, false_and, and_false, String.reduceEq, eq_self, decide_true, decide_false, exIf, ne_eq, not_false_eq_true, Nat.zero_le, b_scan_12]
    refine hN _ _ (ih (at_ + 1) lb (acc ++ [(⟨#[y]⟩, l, c)]) _ _ _ _ h3 h1 (by omega) (by simp; omega) ?_ (fun he l lb at_ e5 e6 e7 M' o' => q he l lb at_ e5 e6 e7 M' (by simpa using o')) qE)
    have := o.set (es := (acc ++ [((⟨#[y]⟩ : Str), l, c)]).map itD)
    rw [List.map_append] at this ⊢
    rw [hc] at this
    rw [hc]
    exact this
  | @gap y r l c ts e hy h ih =>
    obtain ⟨n, ih⟩ := ih
    refine ⟨n + 1, fun at_ lb acc e5 e6 e7 M hd ha hc hn o q qE => vWhile_succ fun N hN => ?_⟩
    obtain ⟨h1, h2, h3⟩ := at_drop hd
    unfold scR
    simp (maxSteps := 400000) only [vSs, vS, vE, vEs, vT, vTo, vEo, vI, setV, slV, seqL', keyD, startD, endsOf, List.map_cons, List.map_nil, List.length_cons, List.length_nil, List.replicate, List.cons_append, List.nil_append, Nat.reduceAdd, Nat.reduceSub, Nat.reduceLeDiff, List.getElem?_cons_zero, List.getElem?_cons_succ, Option.some.injEq, exists_eq_left', exists_eq_left, exists_eq', exists_eq, bindT, bindTs, List.set_cons_zero, List.set_cons_succ, ixV, atI0, atI1, atI2, atI3, cmpV, cmpEq, cmpIs, fOp, fCmp, binV, augV, Bi.wp, Bi.val, truD, wipeR, slotsT, slotsTs, Int.cast_ofNat_Int, seqV, seqF, seqL, Option.map_some, Option.map_none, D.ref.injEq, D.int.injEq, D.bl.injEq, MO.lst.injEq, exists_and_left, exists_and_right, updM_same, updM_updM, viewR, viewD, viewDs, flatD, ixN0, ixN1, ixN2, ifB, ifNB, Bool.not_true, Bool.not_false, Bool.false_eq_true, Bool.true_eq_false, if_true, if_false, ite_true, ite_false, true_and, and_true, or_true, true_or, or_false, false_or, false_and, and_false, String.reduceEq, eq_self, decide_true, decide_false, exIf, ne_eq, not_false_eq_true, Nat.zero_le]
    refine ⟨by omega, ?_⟩
    rw [if_pos (by omega : (at_ : Int) < (x.length : Nat))]
    simp (maxSteps := 400000) only [vSs, vS, vE, vEs, vT, vTo, vEo, vI, setV, slV, seqL', keyD, startD, endsOf, List.map_cons, List.map_nil, List.length_cons, List.length_nil, List.replicate, List.cons_append, List.nil_append, Nat.reduceAdd, Nat.reduceSub, Nat.reduceLeDiff, List.getElem?_cons_zero, List.getElem?_cons_succ, Option.some.injEq, exists_eq_left', exists_eq_left, exists_eq', exists_eq, bindT, bindTs, List.set_cons_zero, List.set_cons_succ, ixV, atI0, atI1, atI2, atI3, cmpV, cmpEq, cmpIs, fOp, fCmp, binV, augV, Bi.wp, Bi.val, truD, wipeR, slotsT, slotsTs, Int.cast_ofNat_Int, seqV, seqF, seqL, Option.map_some, Option.map_none, D.ref.injEq, D.int.injEq, D.bl.injEq, MO.lst.injEq, exists_and_left, exists_and_right, updM_same, updM_updM, viewR, viewD, viewDs, flatD, ixN0, ixN1, ixN2, ifB, ifNB, Bool.not_true, Bool.not_false, Bool.false_eq_true, Bool.true_eq_false, if_true, if_false, ite_true, ite_false, true_and, and_true, or_true, true_or, or_false, false_or, false_and, and_false, String.reduceEq, eq_self, decide_true, decide_false, exIf, ne_eq, not_false_eq_true, Nat.zero_le, b_scan_16]
    refine ⟨_, ixV_at (M := M) (by omega) h2, ?_⟩
    simp (maxSteps := 400000) only [vSs, vS, vE, vEs, vT, vTo, vEo, vI, setV, slV, seqL', keyD, startD, endsOf, List.map_cons, List.map_nil, List.length_cons, List.length_nil, List.replicate, List.cons_append, List.nil_append, Nat.reduceAdd, Nat.reduceSub, Nat.reduceLeDiff, List.getElem?_cons_zero, List.getElem?_cons_succ, Option.some.injEq, exists_eq_left', exists_eq_left, exists_eq', exists_eq, bindT, bindTs, List.set_cons_zero, List.set_cons_succ, ixV, atI0, atI1, atI2, atI3, cmpV, cmpEq, cmpIs, fOp, fCmp, binV, augV, Bi.wp, Bi.val, truD, wipeR, slotsT, slotsTs, Int.cast_ofNat_Int, seqV, seqF, seqL, Option.map_some, Option.map_none, D.ref.injEq, D.int.injEq, D.bl.injEq, MO.lst.injEq, exists_and_left, exists_and_right, updM_same, updM_updM, viewR, viewD, viewDs, flatD, ixN0, ixN1, ixN2, ifB, ifNB, Bool.not_true, Bool.not_false, Bool.false_eq_true, Bool.true_eq_false, if_true, if_false, ite_true, ite_false, true_and, and_true, or_true, true_or, or_false, false_or, false_and, and_false, String.reduceEq, eq_self, decide_true, decide_false, exIf, ne_eq, not_false_eq_true, Nat.zero_le, b_scan_15]
    simp (maxSteps := 400000) only [vSs, vS, vE, vEs, vT, vTo, vEo, vI, setV, slV, seqL', keyD, startD, endsOf, List.map_cons, List.map_nil, List.length_cons, List.length_nil, List.replicate, List.cons_append, List.nil_append, Nat.reduceAdd, Nat.reduceSub, Nat.reduceLeDiff, List.getElem?_cons_zero, List.getElem?_cons_succ, Option.some.injEq, exists_eq_left', exists_eq_left, exists_eq', exists_eq, bindT, bindTs, List.set_cons_zero, List.set_cons_succ, ixV, atI0, atI1, atI2, atI3, cmpV, cmpEq, cmpIs, fOp, fCmp, binV, augV, Bi.wp, Bi.val, truD, wipeR, slotsT, slotsTs, Int.cast_ofNat_Int, seqV, seqF, seqL, Option.map_some, Option.map_none, D.ref.injEq, D.int.injEq, D.bl.injEq, MO.lst.injEq, exists_and_left, exists_and_right, updM_same, updM_updM, viewR, viewD, viewDs, flatD, ixN0, ixN1, ixN2, ifB, ifNB, Bool.not_true, Bool.not_false, Bool.false_eq_true, Bool.true_eq_false, if_true, if_false, ite_true, ite_false, true_and, and_true, or_true, true_or, or_false, false_or, false_and, and_false, String.reduceEq, eq_self, decide_true, decide_false, exIf, ne_eq, not_false_eq_true, Nat.zero_le, b_scan_14]
    simp (maxSteps := 400000) only [vSs, vS, vE, vEs, vT, vTo, vEo, vI, setV, slV, seqL', keyD, startD, endsOf, List.map_cons, List.map_nil, List.length_cons, List.length_nil, List.replicate, List.cons_append, List.nil_append, Nat.reduceAdd, Nat.reduceSub, Nat.reduceLeDiff, List.getElem?_cons_zero, List.getElem?_cons_succ, Option.some.injEq, exists_eq_left', exists_eq_left, exists_eq', exists_eq, bindT, bindTs, List.set_cons_zero, List.set_cons_succ, ixV, atI0, atI1, atI2, atI3, cmpV, cmpEq, cmpIs, fOp, fCmp, binV, augV, Bi.wp, Bi.val, truD, wipeR, slotsT, slotsTs, Int.cast_ofNat_Int, seqV, seqF, seqL, Option.map_some, Option.map_none, D.ref.injEq, D.int.injEq, D.bl.injEq, MO.lst.injEq, exists_and_left, exists_and_right, updM_same, updM_updM, viewR, viewD, viewDs, flatD, ixN0, ixN1, ixN2, ifB, ifNB, Bool.not_true, Bool.not_false, Bool.false_eq_true, Bool.true_eq_false, if_true, if_false, ite_true, ite_false, true_and, and_true, or_true, true_or, or_false, false_or, false_and, and_false, String.reduceEq, eq_self, decide_true, decide_false, exIf, ne_eq, not_false_eq_true, Nat.zero_le, b_scan_13]
    rw [if_neg (fun h => by have := (one_eq e10).mp h; omega)]
    simp (maxSteps := 400000) only [vSs, vS, vE, vEs, vT, vTo, vEo, vI, setV, slV, seqL', keyD, startD, endsOf, List.map_cons, List.map_nil, List.length_cons, List.length_nil, List.replicate, List.cons_append, List.nil_append, Nat.reduceAdd, Nat.reduceSub, Nat.reduceLeDiff, List.getElem?_cons_zero, List.getElem?_cons_succ, Option.some.injEq, exists_eq_left', exists_eq_left, exists_eq', exists_eq, bindT, bindTs, List.set_cons_zero, List.set_cons_succ, ixV, atI0, atI1, atI2, atI3, cmpV, cmpEq, cmpIs, fOp, fCmp, binV, augV, Bi.wp, Bi.val, truD, wipeR, slotsT, slotsTs, Int.cast_ofNat_Int, seqV, seqF, seqL, Option.map_some, Option.map_none, D.ref.injEq, D.int.injEq, D.bl.injEq, MO.lst.injEq, exists_and_left, exists_and_right, updM_same, updM_updM, viewR, viewD, viewDs, flatD, ixN0, ixN1, ixN2, ifB, ifNB, Bool.not_true, Bool.not_false, Bool.false_eq_true, Bool.true_eq_false, if_true, if_false, ite_true, ite_false, true_and, and_true, or_true, true_or, or_false, false_or, false_and, and_false, String.reduceEq, eq_self, decide_true, decide_false, exIf, ne_eq, not_false_eq_true, Nat.zero_le, b_scan_11]
    rw [if_neg (fun h => by have := (one_eq e59).mp h; omega)]
    simp (maxSteps := 400000) only [vSs, vS, vE, vEs, vT, vTo, vEo, vI, setV, slV, seqL', keyD, startD, endsOf, List.map_cons, List.map_nil, List.length_cons, List.length_nil, List.replicate, List.cons_append, List.nil_append, Nat.reduceAdd, Nat.reduceSub, Nat.reduceLeDiff, List.getElem?_cons_zero, List.getElem?_cons_succ, Option.some.injEq, exists_eq_left', exists_eq_left, exists_eq', exists_eq, bindT, bindTs, List.set_cons_zero, List.set_cons_succ, ixV, atI0, atI1, atI2, atI3, cmpV, cmpEq, cmpIs, fOp, fCmp, binV, augV, Bi.wp, Bi.val, truD, wipeR, slotsT, slotsTs, Int.cast_ofNat_Int, seqV, seqF, seqL, Option.map_some, Option.map_none, D.ref.injEq, D.int.injEq, D.bl.injEq, MO.lst.injEq, exists_and_left, exists_and_right, updM_same, updM_updM, viewR, viewD, viewDs, flatD, ixN0, ixN1, ixN2, ifB, ifNB, Bool.not_true, Bool.not_false, Bool.false_eq_true, Bool.true_eq_false, if_true, if_false, ite_true, ite_false, true_and, and_true, or_true, true_or, or_false, false_or, false_and, and_false, String.reduceEq, eq_self, decide_true, decide_false, exIf, ne_eq, not_false_eq_true, Nat.zero_le, b_scan_10]
    refine ⟨_, inV_one, ?_⟩
    rw [decide_eq_false (by rw [epar]; simp; omega), if_neg Bool.false_ne_true]
    simp (maxSteps := 400000) only [vSs, vS, vE, vEs, vT, vTo, vEo, vI, setV, slV, seqL', keyD, startD, endsOf, List.map_cons, List.map_nil, List.length_cons, List.length_nil, List.replicate, List.cons_append, List.nil_append, Nat.reduceAdd, Nat.reduceSub, Nat.reduceLeDiff, List.getElem?_cons_zero, List.getElem?_cons_succ, Option.some.injEq, exists_eq_left', exists_eq_left, exists_eq', exists_eq, bindT, bindTs, List.set_cons_zero, List.set_cons_succ, ixV, atI0, atI1, atI2, atI3, cmpV, cmpEq, cmpIs, fOp, fCmp, binV, augV, Bi.wp, Bi.val, truD, wipeR, slotsT, slotsTs, Int.cast_ofNat_Int, seqV, seqF, seqL, Option.map_some, Option.map_none, D.ref.injEq, D.int.injEq, D.bl.injEq, MO.lst.injEq, exists_and_left, exists_and_right, updM_same, updM_updM, viewR, viewD, viewDs, flatD, ixN0, ixN1, ixN2, ifB, ifNB, Bool.not_true, Bool.not_false, Bool.false_eq_true, Bool.true_eq_false, if_true, if_false, ite_true, ite_false, true_and, and_true, or_true, true_or, or_false, false_or, false_and, and_false, String.reduceEq, eq_self, decide_true, decide_false, exIf, ne_eq, not_false_eq_true, Nat.zero_le, b_scan_9]
    refine ⟨_, inV_one, ?_⟩
    rw [decide_eq_true (by rw [egap]; simp; exact hy)]
    rw [if_pos rfl]
    simp (maxSteps := 400000) only [vSs, vS, vE, vEs, vT, vTo, vEo, vI, setV, slV, seqL', keyD, startD, endsOf, List.map_cons, List.map_nil, List.length_cons, List.length_nil, List.replicate, List.cons_append, List.nil_append, Nat.reduceAdd, Nat.reduceSub, Nat.reduceLeDiff, List.getElem?_cons_zero, List.getElem?_cons_succ, Option.some.injEq, exists_eq_left', exists_eq_left, exists_eq', exists_eq, bindT, bindTs, List.set_cons_zero, List.set_cons_succ, ixV, atI0, atI1, atI2, atI3, cmpV, cmpEq, cmpIs, fOp, fCmp, binV, augV, Bi.wp, Bi.val, truD, wipeR, slotsT, slotsTs, Int.cast_ofNat_Int, seqV, seqF, seqL, Option.map_some, Option.map_none, D.ref.injEq, D.int.injEq, D.bl.injEq, MO.lst.injEq, exists_and_left, exists_and_right, updM_same, updM_updM, viewR, viewD, viewDs, flatD, ixN0, ixN1, ixN2, ifB, ifNB, Bool.not_true, Bool.not_false, Bool.false_eq_true, Bool.true_eq_false, if_true, if_false, ite_true, ite_false, true_and, and_true, or_true, true_or, or_false, false_or, false_and, and_false, String.reduceEq, eq_self, decide_true, decide_false, exIf, ne_eq, not_false_eq_true, Nat.zero_le, b_scan_12]
    exact hN _ _ (ih (at_ + 1) lb acc _ _ _ M h3 h1 (by omega) (by omega) o q qE)
  | @word y w r l c ts e hw hr h ih =>
    obtain ⟨n, ih⟩ := ih
    refine ⟨n + 1, fun at_ lb acc e5 e6 e7 M hd ha hc hn o q qE => vWhile_succ fun N hN => ?_⟩
    obtain ⟨h1, h2, h3⟩ := at_drop hd
    have hd2 : (tx x).drop at_ = (y :: w) ++ r := by rw [hd]; rfl
    have hlen : at_ + (y :: w).length ≤ x.length := by
      have := congrArg List.length hd2
      rw [List.length_drop, List.length_append, ← tx_len] at this
      have : 0 < (y :: w).length := by simp
      omega
    have ws := word_sign y (of_decide_eq_true (hw y (List.mem_cons_self ..)))
    unfold scR
    simp (maxSteps := 400000) only [vSs, vS, vE, vEs, vT, vTo, vEo, vI, setV, slV, seqL', keyD, startD, endsOf, List.map_cons, List.map_nil, List.length_cons, List.length_nil, List.replicate, List.cons_append, List.nil_append, Nat.reduceAdd, Nat.reduceSub, Nat.reduceLeDiff, List.getElem?_cons_zero, List.getElem?_cons_succ, Option.some.injEq, exists_eq_left', exists_eq_left, exists_eq', exists_eq, bindT, bindTs, List.set_cons_zero, List.set_cons_succ, ixV, atI0, atI1, atI2, atI3, cmpV, cmpEq, cmpIs, fOp, fCmp, binV, augV, Bi.wp, Bi.val, truD, wipeR, slotsT, slotsTs, Int.cast_ofNat_Int, seqV, seqF, seqL, Option.map_some, Option.map_none, D.ref.injEq, D.int.injEq, D.bl.injEq, MO.lst.injEq, exists_and_left, exists_and_right, updM_same, updM_updM, viewR, viewD, viewDs, flatD, ixN0, ixN1, ixN2, ifB, ifNB, Bool.not_true, Bool.not_false, Bool.false_eq_true, Bool.true_eq_false, if_true, if_false, ite_true, ite_false, true_and, and_true, or_true, true_or, or_false, false_or, false_and, and_false, String.reduceEq, eq_self, decide_true, decide_false, exIf, ne_eq, not_false_eq_true, Nat.zero_le]
    refine ⟨by omega, ?_⟩
    rw [if_pos (by omega : (at_ : Int) < (x.length : Nat))]
    simp (maxSteps := 400000) only [vSs, vS, vE, vEs, vT, vTo, vEo, vI, setV, slV, seqL', keyD, startD, endsOf, List.map_cons, List.map_nil, List.length_cons, List.length_nil, List.replicate, List.cons_append, List.nil_append, Nat.reduceAdd, Nat.reduceSub, Nat.reduceLeDiff, List.getElem?_cons_zero, List.getElem?_cons_succ, Option.some.injEq, exists_eq_left', exists_eq_left, exists_eq', exists_eq, bindT, bindTs, List.set_cons_zero, List.set_cons_succ, ixV, atI0, atI1, atI2, atI3, cmpV, cmpEq, cmpIs, fOp, fCmp, binV, augV, Bi.wp, Bi.val, truD, wipeR, slotsT, slotsTs, Int.cast_ofNat_Int, seqV, seqF, seqL, Option.map_some, Option.map_none, D.ref.injEq, D.int.injEq, D.bl.injEq, MO.lst.injEq, exists_and_left, exists_and_right, updM_same, updM_updM, viewR, viewD, viewDs, flatD, ixN0, ixN1, ixN2, ifB, ifNB, Bool.not_true, Bool.not_false, Bool.false_eq_true, Bool.true_eq_false, if_true, if_false, ite_true, ite_false, true_and, and_true, or_true, true_or, or_false, false_or, false_and, and_false, String.reduceEq, eq_self, decide_true, decide_false, exIf, ne_eq, not_false_eq_true, Nat.zero_le, b_scan_16]
    refine ⟨_, ixV_at (M := M) (by omega) h2, ?_⟩
    simp (maxSteps := 400000) only [vSs, vS, vE, vEs, vT, vTo, vEo, vI, setV, slV, seqL', keyD, startD, endsOf, List.map_cons, List.map_nil, List.length_cons, List.length_nil, List.replicate, List.cons_append, List.nil_append, Nat.reduceAdd, Nat.reduceSub, Nat.reduceLeDiff, List.getElem?_cons_zero, List.getElem?_cons_succ, Option.some.injEq, exists_eq_left', exists_eq_left, exists_eq', exists_eq, bindT, bindTs, List.set_cons_zero, List.set_cons_succ, ixV, atI0, atI1, atI2, atI3, cmpV, cmpEq, cmpIs, fOp, fCmp, binV, augV, Bi.wp, Bi.val, truD, wipeR, slotsT, slotsTs, Int.cast_ofNat_Int, seqV, seqF, seqL, Option.map_some, Option.map_none, D.ref.injEq, D.int.injEq, D.bl.injEq, MO.lst.injEq, exists_and_left, exists_and_right, updM_same, updM_updM, viewR, viewD, viewDs, flatD, ixN0, ixN1, ixN2, ifB, ifNB, Bool.not_true, Bool.not_false, Bool.false_eq_true, Bool.true_eq_false, if_true, if_false, ite_true, ite_false, true_and, and_true, or_true, true_or, or_false, false_or, false_and, and_false, String.reduceEq, eq_self, decide_true, decide_false, exIf, ne_eq, not_false_eq_true, Nat.zero_le, b_scan_15]
    simp (maxSteps := 400000) only [vSs, vS, vE, vEs, vT, vTo, vEo, vI, setV, slV, seqL', keyD, startD, endsOf, List.map_cons, List.map_nil, List.length_cons, List.length_nil, List.replicate, List.cons_append, List.nil_append, Nat.reduceAdd, Nat.reduceSub, Nat.reduceLeDiff, List.getElem?_cons_zero, List.getElem?_cons_succ, Option.some.injEq, exists_eq_left', exists_eq_left, exists_eq', exists_eq, bindT, bindTs, List.set_cons_zero, List.set_cons_succ, ixV, atI0, atI1, atI2, atI3, cmpV, cmpEq, cmpIs, fOp, fCmp, binV, augV, Bi.wp, Bi.val, truD, wipeR, slotsT, slotsTs, Int.cast_ofNat_Int, seqV, seqF, seqL, Option.map_some, Option.map_none, D.ref.injEq, D.int.injEq, D.bl.injEq, MO.lst.injEq, exists_and_left, exists_and_right, updM_same, updM_updM, viewR, viewD, viewDs, flatD, ixN0, ixN1, ixN2, ifB, ifNB, Bool.not_true, Bool.not_false, Bool.false_eq_true, Bool.true_eq_false, if_true, if_false, ite_true, ite_false, true_and, and_true, or_true, true_or, or_false, false_or, false_and, and_false, String.reduceEq, eq_self, decide_true, decide_false, exIf, ne_eq, not_false_eq_true, Nat.zero_le, b_scan_14]
    simp (maxSteps := 400000) only [vSs, vS, vE, vEs, vT, vTo, vEo, vI, setV, slV, seqL', keyD, startD, endsOf, List.map_cons, List.map_nil, List.length_cons, List.length_nil, List.replicate, List.cons_append, List.nil_append, Nat.reduceAdd, Nat.reduceSub, Nat.reduceLeDiff, List.getElem?_cons_zero, List.getElem?_cons_succ, Option.some.injEq, exists_eq_left', exists_eq_left, exists_eq', exists_eq, bindT, bindTs, List.set_cons_zero, List.set_cons_succ, ixV, atI0, atI1, atI2, atI3, cmpV, cmpEq, cmpIs, fOp, fCmp, binV, augV, Bi.wp, Bi.val, truD, wipeR, slotsT, slotsTs, Int.cast_ofNat_Int, seqV, seqF, seqL, Option.map_some, Option.map_none, D.ref.injEq, D.int.injEq, D.bl.injEq, MO.lst.injEq, exists_and_left, exists_and_right, updM_same, updM_updM, viewR, viewD, viewDs, flatD, ixN0, ixN1, ixN2, ifB, ifNB, Bool.not_true, Bool.not_false, Bool.false_eq_true, Bool.true_eq_false, if_true, if_false, ite_true, ite_false, true_and, and_true, or_true, true_or, or_false, false_or, false_and, and_false, String.reduceEq, eq_self, decide_true, decide_false, exIf, ne_eq, not_false_eq_true, Nat.zero_le, b_scan_13]
    rw [if_neg (fun h => by have := (one_eq e10).mp h; omega)]
    simp (maxSteps := 400000) only [vSs, vS, vE, vEs, vT, vTo, vEo, vI, setV, slV, seqL', keyD, startD, endsOf, List.map_cons, List.map_nil, List.length_cons, List.length_nil, List.replicate, List.cons_append, List.nil_append, Nat.reduceAdd, Nat.reduceSub, Nat.reduceLeDiff, List.getElem?_cons_zero, List.getElem?_cons_succ, Option.some.injEq, exists_eq_left', exists_eq_left, exists_eq', exists_eq, bindT, bindTs, List.set_cons_zero, List.set_cons_succ, ixV, atI0, atI1, atI2, atI3, cmpV, cmpEq, cmpIs, fOp, fCmp, binV, augV, Bi.wp, Bi.val, truD, wipeR, slotsT, slotsTs, Int.cast_ofNat_Int, seqV, seqF, seqL, Option.map_some, Option.map_none, D.ref.injEq, D.int.injEq, D.bl.injEq, MO.lst.injEq, exists_and_left, exists_and_right, updM_same, updM_updM, viewR, viewD, viewDs, flatD, ixN0, ixN1, ixN2, ifB, ifNB, Bool.not_true, Bool.not_false, Bool.false_eq_true, Bool.true_eq_false, if_true, if_false, ite_true, ite_false, true_and, and_true, or_true, true_or, or_false, false_or, false_and, and_false, String.reduceEq, eq_self, decide_true, decide_false, exIf, ne_eq, not_false_eq_true, Nat.zero_le, b_scan_11]
    rw [if_neg (fun h => by have := (one_eq e59).mp h; omega)]
    simp (maxSteps := 400000) only [vSs, vS, vE, vEs, vT, vTo, vEo, vI, setV, slV, seqL', keyD, startD, endsOf, List.map_cons, List.map_nil, List.length_cons, List.length_nil, List.replicate, List.cons_append, List.nil_append, Nat.reduceAdd, Nat.reduceSub, Nat.reduceLeDiff, List.getElem?_cons_zero, List.getElem?_cons_succ, Option.some.injEq, exists_eq_left', exists_eq_left, exists_eq', exists_eq, bindT, bindTs, List.set_cons_zero, List.set_cons_succ, ixV, atI0, atI1, atI2, atI3, cmpV, cmpEq, cmpIs, fOp, fCmp, binV, augV, Bi.wp, Bi.val, truD, wipeR, slotsT, slotsTs, Int.cast_ofNat_Int, seqV, seqF, seqL, Option.map_some, Option.map_none, D.ref.injEq, D.int.injEq, D.bl.injEq, MO.lst.injEq, exists_and_left, exists_and_right, updM_same, updM_updM, viewR, viewD, viewDs, flatD, ixN0, ixN1, ixN2, ifB, ifNB, Bool.not_true, Bool.not_false, Bool.false_eq_true, Bool.true_eq_false, if_true, if_false, ite_true, ite_false, true_and, and_true, or_true, true_or, or_false, false_or, false_and, and_false, String.reduceEq, eq_self, decide_true, decide_false, exIf, ne_eq, not_false_eq_true, Nat.zero_le, b_scan_10]
    refine ⟨_, inV_one, ?_⟩
    rw [decide_eq_false (by rw [epar]; simp; omega), if_neg Bool.false_ne_true]
    simp (maxSteps := 400000) only [vSs, vS, vE, vEs, vT, vTo, vEo, vI, setV, slV, seqL', keyD, startD, endsOf, List.map_cons, List.map_nil, List.length_cons, List.length_nil, List.replicate, List.cons_append, List.nil_append, Nat.reduceAdd, Nat.reduceSub, Nat.reduceLeDiff, List.getElem?_cons_zero, List.getElem?_cons_succ, Option.some.injEq, exists_eq_left', exists_eq_left, exists_eq', exists_eq, bindT, bindTs, List.set_cons_zero, List.set_cons_succ, ixV, atI0, atI1, atI2, atI3, cmpV, cmpEq, cmpIs, fOp, fCmp, binV, augV, Bi.wp, Bi.val, truD, wipeR, slotsT, slotsTs, Int.cast_ofNat_Int, seqV, seqF, seqL, Option.map_some, Option.map_none, D.ref.injEq, D.int.injEq, D.bl.injEq, MO.lst.injEq, exists_and_left, exists_and_right, updM_same, updM_updM, viewR, viewD, viewDs, flatD, ixN0, ixN1, ixN2, ifB, ifNB, Bool.not_true, Bool.not_false, Bool.false_eq_true, Bool.true_eq_false, if_true, if_false, ite_true, ite_false, true_and, and_true, or_true, true_or, or_false, false_or, false_and, and_false, String.reduceEq, eq_self, decide_true, decide_false, exIf, ne_eq, not_false_eq_true, Nat.zero_le, b_scan_9]
    refine ⟨_, inV_one, ?_⟩
    rw [decide_eq_false (by rw [egap]; simp; omega)]
    rw [if_neg Bool.false_ne_true]
    simp (maxSteps := 400000) only [vSs, vS, vE, vEs, vT, vTo, vEo, vI, setV, slV, seqL', keyD, startD, endsOf, List.map_cons, List.map_nil, List.length_cons, List.length_nil, List.replicate, List.cons_append, List.nil_append, Nat.reduceAdd, Nat.reduceSub, Nat.reduceLeDiff, List.getElem?_cons_zero, List.getElem?_cons_succ, Option.some.injEq, exists_eq_left', exists_eq_left, exists_eq', exists_eq, bindT, bindTs, List.set_cons_zero, List.set_cons_succ, ixV, atI0, atI1, atI2, atI3, cmpV, cmpEq, cmpIs, fOp, fCmp, binV, augV, Bi.wp, Bi.val, truD, wipeR, slotsT, slotsTs, Int.cast_ofNat_Int, seqV, seqF, seqL, Option.map_some, Option.map_none, D.ref.injEq, D.int.injEq, D.bl.injEq, MO.lst.injEq, exists_and_left, exists_and_right, updM_same, updM_updM, viewR, viewD, viewDs, flatD, ixN0, ixN1, ixN2, ifB, ifNB, Bool.not_true, Bool.not_false, Bool.false_eq_true, Bool.true_eq_false, if_true, if_false, ite_true, ite_false, true_and, and_true, or_true, true_or, or_false, false_or, false_and, and_false, String.reduceEq, eq_self, decide_true, decide_false, exIf, ne_eq, not_false_eq_true, Nat.zero_le, b_scan_8]
    refine ⟨x, at_, y :: w, r, rfl, hx, hd2, hw, hr, ?_⟩
    simp (maxSteps := 400000) only [vSs, vS, vE, vEs, vT, vTo, vEo, vI, setV, slV, seqL', keyD, startD, endsOf, List.map_cons, List.map_nil, List.length_cons, List.length_nil, List.replicate, List.cons_append, List.nil_append, Nat.reduceAdd, Nat.reduceSub, Nat.reduceLeDiff, List.getElem?_cons_zero, List.getElem?_cons_succ, Option.some.injEq, exists_eq_left', exists_eq_left, exists_eq', exists_eq, bindT, bindTs, List.set_cons_zero, List.set_cons_succ, ixV, atI0, atI1, atI2, atI3, cmpV, cmpEq, cmpIs, fOp, fCmp, binV, augV, Bi.wp, Bi.val, truD, wipeR, slotsT, slotsTs, Int.cast_ofNat_Int, seqV, seqF, seqL, Option.map_some, Option.map_none, D.ref.injEq, D.int.injEq, D.bl.injEq, MO.lst.injEq, exists_and_left, exists_and_right, updM_same, updM_updM, viewR, viewD, viewDs, flatD, ixN0, ixN1, ixN2, ifB, ifNB, Bool.not_true, Bool.not_false, Bool.false_eq_true, Bool.true_eq_false, if_true, if_false, ite_true, ite_false, true_and, and_true, or_true, true_or, or_false, false_or, false_and, and_false, String.reduceEq, eq_self, decide_true, decide_false, exIf, ne_eq, not_false_eq_true, Nat.zero_le, b_scan_7]
    rw [if_neg (by simp; omega)]
    simp (maxSteps := 400000) only [vSs, vS, vE, vEs, vT, vTo, vEo, vI, setV, slV, seqL', keyD, startD, endsOf, List.map_cons, List.map_nil, List.length_cons, List.length_nil, List.replicate, List.cons_append, List.nil_append, Nat.reduceAdd, Nat.reduceSub, Nat.reduceLeDiff, List.getElem?_cons_zero, List.getElem?_cons_succ, Option.some.injEq, exists_eq_left', exists_eq_left, exists_eq', exists_eq, bindT, bindTs, List.set_cons_zero, List.set_cons_succ, ixV, atI0, atI1, atI2, atI3, cmpV, cmpEq, cmpIs, fOp, fCmp, binV, augV, Bi.wp, Bi.val, truD, wipeR, slotsT, slotsTs, Int.cast_ofNat_Int, seqV, seqF, seqL, Option.map_some, Option.map_none, D.ref.injEq, D.int.injEq, D.bl.injEq, MO.lst.injEq, exists_and_left, exists_and_right, updM_same, updM_updM, viewR, viewD, viewDs, flatD, ixN0, ixN1, ixN2, ifB, ifNB, Bool.not_true, Bool.not_false, Bool.false_eq_true, Bool.true_eq_false, if_true, if_false, ite_true, ite_false, true_and, and_true, or_true, true_or, or_false, false_or, false_and, and_false, String.reduceEq, eq_self, decide_true, decide_false, exIf, ne_eq, not_false_eq_true, Nat.zero_le, b_scan_6, o.at']
    refine ⟨by omega, by simp; omega, ?_⟩
    simp (maxSteps := 400000) only [vSs, vS, vE, vEs, vT, vTo, vEo, vI, setV, slV, seqL', keyD, startD, endsOf, List.map_cons, List.map_nil, List.length_cons, List.length_nil, List.replicate, List.cons_append, List.nil_append, Nat.reduceAdd, Nat.reduceSub, Nat.reduceLeDiff, List.getElem?_cons_zero, List.getElem?_cons_succ, Option.some.injEq, exists_eq_left', exists_eq_left, exists_eq', exists_eq, bindT, bindTs, List.set_cons_zero, List.set_cons_succ, ixV, atI0, atI1, atI2, atI3, cmpV, cmpEq, cmpIs, fOp, fCmp, binV, augV, Bi.wp, Bi.val, truD, wipeR, slotsT, slotsTs, Int.cast_ofNat_Int, seqV, seqF, seqL, Option.map_some, Option.map_none, D.ref.injEq, D.int.injEq, D.bl.injEq, MO.lst.injEq, exists_and_left, exists_and_right, updM_same, updM_updM, viewR, viewD, viewDs, flatD, ixN0, ixN1, ixN2, ifB, ifNB, Bool.not_true, Bool.not_false, Bool.false_eq_true, Bool.true_eq_false, if_true, if_false, ite_true, ite_false, true_and, and_true, or_true, true_or, or_false, false_or, false_and, and_false, String.reduceEq, eq_self, decide_true, decide_false, exIf, ne_eq, not_false_eq_true, Nat.zero_le, b_scan_12]
    rw [show at_ + (w.length + 1) = at_ + (y :: w).length from rfl, cut_word hd2 hlen]
    refine hN _ _ (ih (at_ + (y :: w).length) lb (acc ++ [(⟨(y :: w).toArray⟩, l, c)]) _ _ _ _ ?_ hlen (by simp; omega) (by simp; omega) ?_ (fun he l lb at_ e5 e6 e7 M' o' => q he l lb at_ e5 e6 e7 M' (by simpa using o')) qE)
    · rw [← List.drop_drop, hd2, List.drop_left]
    · have := o.set (es := (acc ++ [((⟨(y :: w).toArray⟩ : Str), l, c)]).map itD)
      rw [List.map_append] at this ⊢
      rw [hc] at this
      rw [hc]
      exact this
end
theorem w_scan (te : Addr) (ds : List D) (M : Mo) (Q : QE) (X : XQ) (h : C_scan te ds M Q X) : vSs (G_scan te) b_scan (endsOf Q X) (startD 8 ds) M := by
  obtain ⟨x, its, e, rfl, hx, hs, q, qE⟩ := h
  simp (maxSteps := 400000) only [vSs, vS, vE, vEs, vT, vTo, vEo, vI, setV, slV, seqL', keyD, startD, endsOf, List.map_cons, List.map_nil, List.length_cons, List.length_nil, List.replicate, List.cons_append, List.nil_append, Nat.reduceAdd, Nat.reduceSub, Nat.reduceLeDiff, List.getElem?_cons_zero, List.getElem?_cons_succ, Option.some.injEq, exists_eq_left', exists_eq_left, exists_eq', exists_eq, bindT, bindTs, List.set_cons_zero, List.set_cons_succ, ixV, atI0, atI1, atI2, atI3, cmpV, cmpEq, cmpIs, fOp, fCmp, binV, augV, Bi.wp, Bi.val, truD, wipeR, slotsT, slotsTs, Int.cast_ofNat_Int, seqV, seqF, seqL, Option.map_some, Option.map_none, D.ref.injEq, D.int.injEq, D.bl.injEq, MO.lst.injEq, exists_and_left, exists_and_right, updM_same, updM_updM, viewR, viewD, viewDs, flatD, ixN0, ixN1, ixN2, ifB, ifNB, Bool.not_true, Bool.not_false, Bool.false_eq_true, Bool.true_eq_false, if_true, if_false, ite_true, ite_false, true_and, and_true, or_true, true_or, or_false, false_or, false_and, and_false, String.reduceEq, eq_self, decide_true, decide_false, exIf, ne_eq, not_false_eq_true, Nat.zero_le, b_scan]
  intro T hT
  simp (maxSteps := 400000) only [vSs, vS, vE, vEs, vT, vTo, vEo, vI, setV, slV, seqL', keyD, startD, endsOf, List.map_cons, List.map_nil, List.length_cons, List.length_nil, List.replicate, List.cons_append, List.nil_append, Nat.reduceAdd, Nat.reduceSub, Nat.reduceLeDiff, List.getElem?_cons_zero, List.getElem?_cons_succ, Option.some.injEq, exists_eq_left', exists_eq_left, exists_eq', exists_eq, bindT, bindTs, List.set_cons_zero, List.set_cons_succ, ixV, atI0, atI1, atI2, atI3, cmpV, cmpEq, cmpIs, fOp, fCmp, binV, augV, Bi.wp, Bi.val, truD, wipeR, slotsT, slotsTs, Int.cast_ofNat_Int, seqV, seqF, seqL, Option.map_some, Option.map_none, D.ref.injEq, D.int.injEq, D.bl.injEq, MO.lst.injEq, exists_and_left, exists_and_right, updM_same, updM_updM, viewR, viewD, viewDs, flatD, ixN0, ixN1, ixN2, ifB, ifNB, Bool.not_true, Bool.not_false, Bool.false_eq_true, Bool.true_eq_false, if_true, if_false, ite_true, ite_false, true_and, and_true, or_true, true_or, or_false, false_or, false_and, and_false, String.reduceEq, eq_self, decide_true, decide_false, exIf, ne_eq, not_false_eq_true, Nat.zero_le, b_scan_22]
  simp (maxSteps := 400000) only [vSs, vS, vE, vEs, vT, vTo, vEo, vI, setV, slV, seqL', keyD, startD, endsOf, List.map_cons, List.map_nil, List.length_cons, List.length_nil, List.replicate, List.cons_append, List.nil_append, Nat.reduceAdd, Nat.reduceSub, Nat.reduceLeDiff, List.getElem?_cons_zero, List.getElem?_cons_succ, Option.some.injEq, exists_eq_left', exists_eq_left, exists_eq', exists_eq, bindT, bindTs, List.set_cons_zero, List.set_cons_succ, ixV, atI0, atI1, atI2, atI3, cmpV, cmpEq, cmpIs, fOp, fCmp, binV, augV, Bi.wp, Bi.val, truD, wipeR, slotsT, slotsTs, Int.cast_ofNat_Int, seqV, seqF, seqL, Option.map_some, Option.map_none, D.ref.injEq, D.int.injEq, D.bl.injEq, MO.lst.injEq, exists_and_left, exists_and_right, updM_same, updM_updM, viewR, viewD, viewDs, flatD, ixN0, ixN1, ixN2, ifB, ifNB, Bool.not_true, Bool.not_false, Bool.false_eq_true, Bool.true_eq_false, if_true, if_false, ite_true, ite_false, true_and, and_true, or_true, true_or, or_false, false_or, false_and, and_false, String.reduceEq, eq_self, decide_true, decide_false, exIf, ne_eq, not_false_eq_true, Nat.zero_le, b_scan_21]
  simp (maxSteps := 400000) only [vSs, vS, vE, vEs, vT, vTo, vEo, vI, setV, slV, seqL', keyD, startD, endsOf, List.map_cons, List.map_nil, List.length_cons, List.length_nil, List.replicate, List.cons_append, List.nil_append, Nat.reduceAdd, Nat.reduceSub, Nat.reduceLeDiff, List.getElem?_cons_zero, List.getElem?_cons_succ, Option.some.injEq, exists_eq_left', exists_eq_left, exists_eq', exists_eq, bindT, bindTs, List.set_cons_zero, List.set_cons_succ, ixV, atI0, atI1, atI2, atI3, cmpV, cmpEq, cmpIs, fOp, fCmp, binV, augV, Bi.wp, Bi.val, truD, wipeR, slotsT, slotsTs, Int.cast_ofNat_Int, seqV, seqF, seqL, Option.map_some, Option.map_none, D.ref.injEq, D.int.injEq, D.bl.injEq, MO.lst.injEq, exists_and_left, exists_and_right, updM_same, updM_updM, viewR, viewD, viewDs, flatD, ixN0, ixN1, ixN2, ifB, ifNB, Bool.not_true, Bool.not_false, Bool.false_eq_true, Bool.true_eq_false, if_true, if_false, ite_true, ite_false, true_and, and_true, or_true, true_or, or_false, false_or, false_and, and_false, String.reduceEq, eq_self, decide_true, decide_false, exIf, ne_eq, not_false_eq_true, Nat.zero_le, b_scan_20]
  obtain ⟨n, hl⟩ := scan_loop (te := te) (T := T) (M0 := M) (K := { endsOf Q X with nx := fun ρ1 M1 => vSs (G_scan te) b_scan_18 (endsOf Q X) ρ1 M1 }) hx hs
  refine vSs_while ⟨n, hl 0 0 [] _ _ _ _ rfl (Nat.zero_le _) rfl (Nat.le_refl _) (Own.new (Sub.refl M) hT) (fun he l lb at_ e5 e6 e7 M' o => ?_) (fun z hz => ⟨(qE z hz).1, fun ρ' M' s => ⟨_, Sub.refl _, (qE z hz).2 M' s⟩⟩)⟩
  rw [List.nil_append] at o
  unfold scR
  simp (maxSteps := 400000) only [vSs, vS, vE, vEs, vT, vTo, vEo, vI, setV, slV, seqL', keyD, startD, endsOf, List.map_cons, List.map_nil, List.length_cons, List.length_nil, List.replicate, List.cons_append, List.nil_append, Nat.reduceAdd, Nat.reduceSub, Nat.reduceLeDiff, List.getElem?_cons_zero, List.getElem?_cons_succ, Option.some.injEq, exists_eq_left', exists_eq_left, exists_eq', exists_eq, bindT, bindTs, List.set_cons_zero, List.set_cons_succ, ixV, atI0, atI1, atI2, atI3, cmpV, cmpEq, cmpIs, fOp, fCmp, binV, augV, Bi.wp, Bi.val, truD, wipeR, slotsT, slotsTs, Int.cast_ofNat_Int, seqV, seqF, seqL, Option.map_some, Option.map_none, D.ref.injEq, D.int.injEq, D.bl.injEq, MO.lst.injEq, exists_and_left, exists_and_right, updM_same, updM_updM, viewR, viewD, viewDs, flatD, ixN0, ixN1, ixN2, ifB, ifNB, Bool.not_true, Bool.not_false, Bool.false_eq_true, Bool.true_eq_false, if_true, if_false, ite_true, ite_false, true_and, and_true, or_true, true_or, or_false, false_or, false_and, and_false, String.reduceEq, eq_self, decide_true, decide_false, exIf, ne_eq, not_false_eq_true, Nat.zero_le, b_scan_18, o.at']
  simp (maxSteps := 400000) only [vSs, vS, vE, vEs, vT, vTo, vEo, vI, setV, slV, seqL', keyD, startD, endsOf, List.map_cons, List.map_nil, List.length_cons, List.length_nil, List.replicate, List.cons_append, List.nil_append, Nat.reduceAdd, Nat.reduceSub, Nat.reduceLeDiff, List.getElem?_cons_zero, List.getElem?_cons_succ, Option.some.injEq, exists_eq_left', exists_eq_left, exists_eq', exists_eq, bindT, bindTs, List.set_cons_zero, List.set_cons_succ, ixV, atI0, atI1, atI2, atI3, cmpV, cmpEq, cmpIs, fOp, fCmp, binV, augV, Bi.wp, Bi.val, truD, wipeR, slotsT, slotsTs, Int.cast_ofNat_Int, seqV, seqF, seqL, Option.map_some, Option.map_none, D.ref.injEq, D.int.injEq, D.bl.injEq, MO.lst.injEq, exists_and_left, exists_and_right, updM_same, updM_updM, viewR, viewD, viewDs, flatD, ixN0, ixN1, ixN2, ifB, ifNB, Bool.not_true, Bool.not_false, Bool.false_eq_true, Bool.true_eq_false, if_true, if_false, ite_true, ite_false, true_and, and_true, or_true, true_or, or_false, false_or, false_and, and_false, String.reduceEq, eq_self, decide_true, decide_false, exIf, ne_eq, not_false_eq_true, Nat.zero_le, b_scan_17]
  exact ⟨_, Sub.refl _, q he _ o.frz⟩
/-- the place behind a text -/
def C_end : Con := fun ds M Q _ => ∃ x : Str, ds = [.str x] ∧ x.length ≤ 1000000 ∧ Q (.tup [.int (lcF (1, 1) (tx x)).1, .int (lcF (1, 1) (tx x)).2]) M
theorem w_end (ds : List D) (M : Mo) (Q : QE) (X : XQ) (h : C_end ds M Q X) : vSs g0 b_end_of (endsOf Q X) (startD 1 ds) M := by
  obtain ⟨x, rfl, hx, q⟩ := h
  simp (maxSteps := 400000) only [vSs, vS, vE, vEs, vT, vTo, vEo, vI, setV, slV, seqL', keyD, startD, endsOf, List.map_cons, List.map_nil, List.length_cons, List.length_nil, List.replicate, List.cons_append, List.nil_append, Nat.reduceAdd, Nat.reduceSub, Nat.reduceLeDiff, List.getElem?_cons_zero, List.getElem?_cons_succ, Option.some.injEq, exists_eq_left', exists_eq_left, exists_eq', exists_eq, bindT, bindTs, List.set_cons_zero, List.set_cons_succ, ixV, atI0, atI1, atI2, atI3, cmpV, cmpEq, cmpIs, fOp, fCmp, binV, augV, Bi.wp, Bi.val, truD, wipeR, slotsT, slotsTs, Int.cast_ofNat_Int, seqV, seqF, seqL, Option.map_some, Option.map_none, D.ref.injEq, D.int.injEq, D.bl.injEq, MO.lst.injEq, exists_and_left, exists_and_right, updM_same, updM_updM, viewR, viewD, viewDs, flatD, ixN0, ixN1, ixN2, ifB, ifNB, Bool.not_true, Bool.not_false, Bool.false_eq_true, Bool.true_eq_false, if_true, if_false, ite_true, ite_false, true_and, and_true, or_true, true_or, or_false, false_or, false_and, and_false, String.reduceEq, eq_self, decide_true, decide_false, exIf, ne_eq, not_false_eq_true, Nat.zero_le, b_end_of, nl_eq]
  refine ⟨⟨_, rfl⟩, _, rfl, _, rfl, by omega, ⟨_, rfl⟩, _, rfl, _, rfl, _, Sub.refl _, ?_⟩
  rw [place_line, place_col]
  exact q
end K85
namespace K85
open PySem PySem.Spec PyProof.Rows L2 Vp
def pureN : Nat → D → Prop
  | n, d => match d with
    | .int _ => True
    | .str _ => True
    | .tup ds => (match n with | 0 => False | n + 1 => ds.length ≤ 100000 ∧ ∀ d ∈ ds, pureN n d)
    | _ => False
theorem pureN_int (n : Nat) (i : Int) : pureN n (.int i) := by cases n <;> trivial
theorem pureN_str (n : Nat) (x : Str) : pureN n (.str x) := by cases n <;> trivial
theorem pureN_tup {n : Nat} {ds : List D} (h : ds.length ≤ 100000) (h2 : ∀ d ∈ ds, pureN n d) : pureN (n + 1) (.tup ds) := ⟨h, h2⟩
theorem pureN_mono : ∀ {n m : Nat} {d : D}, pureN n d → n ≤ m → pureN m d := by
  intro n
  induction n with
  | zero =>
    intro m d h _
    cases d with
    | int i => exact pureN_int m i
    | str x => exact pureN_str m x
    | _ => exact h.elim
  | succ n ih =>
    intro m d h hm
    cases d with
    | int i => exact pureN_int m i
    | str x => exact pureN_str m x
    | tup ds =>
      obtain ⟨m', rfl⟩ : ∃ m', m = m' + 1 := ⟨m - 1, by omega⟩
      exact ⟨h.1, fun d hd => ih (h.2 d hd) (by omega)⟩
    | _ => exact h.elim
theorem vFor_idx {α : Type} {wb : EndsD → Rho → Mo → Prop} {tg : Tg} {K : EndsD} (f : α → Nat → D) (I : Nat → Rho → Mo → Prop) {xs : List α}
    (step : ∀ i x ρ M, xs[i]? = some x → I i ρ M → ∃ ρ', bindT tg (f x i) ρ = some ρ' ∧ ∀ N : Rho → Mo → Prop, (∀ ρ M, I (i + 1) ρ M → N ρ M) → wb { K with nx := N, ct := N, bk := K.nx } ρ' M)
    (fin : ∀ ρ M, I xs.length ρ M → K.nx ρ M) {ρ : Rho} {M : Mo} (h : I 0 ρ M) : vFor wb tg K (xs.zipIdx.map fun p => f p.1 p.2) ρ M := by
  refine vFor_run (α := α × Nat) (fun p => f p.1 p.2) (fun r ρ M => ∃ i, r = (xs.drop i).zipIdx i ∧ i ≤ xs.length ∧ I i ρ M) (fun p r ρ M hI => ?_) (fun ρ M hI => ?_) xs.zipIdx ρ M ⟨0, by simp, by omega, h⟩
  · obtain ⟨i, e, hi, hI⟩ := hI
    cases hd : xs.drop i with
    | nil => rw [hd] at e; cases e
    | cons x t =>
      rw [hd, List.zipIdx_cons] at e
      obtain ⟨rfl, rfl⟩ := List.cons.inj e
      have hx : xs[i]? = some x := by
        have := congrArg List.head? hd
        rw [List.head?_drop] at this
        exact this
      have ht : xs.drop (i + 1) = t := by
        have := congrArg List.tail hd
        rw [List.tail_drop] at this
        exact this
      have hl : i < xs.length := (List.getElem?_eq_some_iff.mp hx).1
      obtain ⟨ρ', e1, hs⟩ := step i x ρ M hx hI
      exact ⟨ρ', e1, fun N hN => hs N fun ρ2 M2 h2 => hN ρ2 M2 ⟨i + 1, by rw [ht], by omega, h2⟩⟩
  · obtain ⟨i, e, hi, hI⟩ := hI
    have : xs.drop i = [] := by
      cases hd : xs.drop i with
      | nil => rfl
      | cons x t => rw [hd, List.zipIdx_cons] at e; cases e
    have hl : xs.length ≤ i := by simpa using this
    have : i = xs.length := by omega
    subst this
    exact fin ρ M hI
def plD (p : PL) : D := .tup [.int p.1, .int p.2]
theorem pop_last {xs : List D} {y : D} : (xs ++ [y])[(xs ++ [y]).length - 1]? = some y := by simp
/-! ### equal -/
def C_int : Con := fun ds M Q _ => ∃ i : Int, ds = [.int i] ∧ Q (.bl true) M
theorem w_int (ds : List D) (M : Mo) (Q : QE) (X : XQ) (h : C_int ds M Q X) : vSs g0 b_law_is_integer (endsOf Q X) (startD 1 ds) M := by
  obtain ⟨i, rfl, q⟩ := h
  simp (maxSteps := 400000) only [vSs, vS, vE, vEs, vT, vTo, vEo, vI, setV, slV, seqL', keyD, startD, endsOf, List.map_cons, List.map_nil, List.length_cons, List.length_nil, List.replicate, List.cons_append, List.nil_append, Nat.reduceAdd, Nat.reduceSub, Nat.reduceLeDiff, List.getElem?_cons_zero, List.getElem?_cons_succ, Option.some.injEq, exists_eq_left', exists_eq_left, exists_eq', exists_eq, bindT, bindTs, List.set_cons_zero, List.set_cons_succ, ixV, atI0, atI1, atI2, atI3, cmpV, cmpEq, cmpIs, fOp, fCmp, binV, augV, Bi.wp, Bi.val, truD, wipeR, slotsT, slotsTs, Int.cast_ofNat_Int, seqV, seqF, seqL, Option.map_some, Option.map_none, D.ref.injEq, D.int.injEq, D.bl.injEq, MO.lst.injEq, exists_and_left, exists_and_right, updM_same, updM_updM, viewR, viewD, viewDs, flatD, ixN0, ixN1, ixN2, ifB, ifNB, Bool.not_true, Bool.not_false, Bool.false_eq_true, Bool.true_eq_false, if_true, if_false, ite_true, ite_false, true_and, and_true, or_true, true_or, or_false, false_or, false_and, and_false, String.reduceEq, eq_self, decide_true, decide_false, exIf, ne_eq, not_false_eq_true, Nat.zero_le, b_law_is_integer]
  exact ⟨_, rfl, true, rfl, by rw [if_pos rfl]; exact ⟨_, rfl, false, rfl, _, Sub.refl _, q⟩⟩
abbrev F_int : Fn := ⟨"_law_is_integer", 1, C_int⟩
abbrev G_eq (C : Con) : Gam := { fns := [F_int, ⟨"_law_equal", 2, C⟩] }
theorem vFor_range {wb : EndsD → Rho → Mo → Prop} {tg : Tg} {K : EndsD} (f : Nat → D) (I : Nat → Rho → Mo → Prop) {n : Nat}
    (step : ∀ i ρ M, i < n → I i ρ M → ∃ ρ', bindT tg (f i) ρ = some ρ' ∧ ∀ N : Rho → Mo → Prop, (∀ ρ M, I (i + 1) ρ M → N ρ M) → wb { K with nx := N, ct := N, bk := K.nx } ρ' M)
    (fin : ∀ ρ M, I n ρ M → K.nx ρ M) {ρ : Rho} {M : Mo} (h : I 0 ρ M) : vFor wb tg K ((List.range n).map f) ρ M := by
  rw [List.range_eq_range']
  refine vFor_run (α := Nat) f (fun r ρ M => ∃ i, i ≤ n ∧ r = List.range' i (n - i) ∧ I i ρ M) (fun x r ρ M hI => ?_) (fun ρ M hI => ?_) _ ρ M ⟨0, by omega, rfl, h⟩
  · obtain ⟨i, hi, e, hI⟩ := hI
    obtain ⟨m, hm⟩ : ∃ m, n - i = m + 1 := by
      cases hn : n - i with
      | zero => rw [hn] at e; cases e
      | succ m => exact ⟨m, rfl⟩
    rw [hm, List.range'_succ] at e
    obtain ⟨rfl, rfl⟩ := List.cons.inj e
    obtain ⟨ρ', e1, hs⟩ := step x ρ M (by omega) hI
    exact ⟨ρ', e1, fun N hN => hs N fun ρ2 M2 h2 => hN ρ2 M2 ⟨x + 1, by omega, by rw [show n - (x + 1) = m by omega], h2⟩⟩
  · obtain ⟨i, hi, e, hI⟩ := hI
    have : n - i = 0 := by
      cases hn : n - i with
      | zero => rfl
      | succ m => rw [hn] at e; cases e
    have : i = n := by omega
    subst this
    exact fin ρ M hI
theorem vComp_range {we : VE} {wt : Rho → Mo → (Bool → Mo → Prop) → XQ → Prop} {tg : Tg} {ρ : Rho} (f : Nat → D) (I : Nat → List D → Mo → Prop) {n : Nat} {Q : List D → Mo → Prop}
    (step : ∀ i acc M, i < n → I i acc M → ∃ ρ', bindT tg (f i) (wipeR ρ (slotsT tg)) = some ρ' ∧ ∀ N : List D → Mo → Prop, (∀ a M, I (i + 1) a M → N a M) → wt ρ' M (fun b M1 => if b = true then we ρ' M1 (fun y M2 => N (acc ++ [y]) M2) noX else N acc M1) noX)
    (fin : ∀ acc M, I n acc M → Q acc M) {M : Mo} (h : I 0 [] M) : vComp we wt tg ρ ((List.range n).map f) [] M Q := by
  rw [List.range_eq_range']
  refine vComp_run (α := Nat) f (fun r acc M => ∃ i, i ≤ n ∧ r = List.range' i (n - i) ∧ I i acc M) (fun x r acc M hI => ?_) (fun acc M hI => ?_) _ [] M ⟨0, by omega, rfl, h⟩
  · obtain ⟨i, hi, e, hI⟩ := hI
    obtain ⟨m, hm⟩ : ∃ m, n - i = m + 1 := by
      cases hn : n - i with
      | zero => rw [hn] at e; cases e
      | succ m => exact ⟨m, rfl⟩
    rw [hm, List.range'_succ] at e
    obtain ⟨rfl, rfl⟩ := List.cons.inj e
    obtain ⟨ρ', e1, hs⟩ := step x acc M (by omega) hI
    exact ⟨ρ', e1, fun N hN => hs N fun a M2 h2 => hN a M2 ⟨x + 1, by omega, by rw [show n - (x + 1) = m by omega], h2⟩⟩
  · obtain ⟨i, hi, e, hI⟩ := hI
    have : n - i = 0 := by
      cases hn : n - i with
      | zero => rfl
      | succ m => rw [hn] at e; cases e
    have : i = n := by omega
    subst this
    exact fin acc M hI

section
variable {C : Con} {M : Mo} {Q : QE} {X : XQ}
theorem eq_str {s : Str} (q : Q (.bl true) M) : vSs (G_eq C) b_law_equal (endsOf Q X) (startD 3 [.str s, .str s]) M := by
  simp (maxSteps := 400000) only [vSs, vS, vE, vEs, vT, vTo, vEo, vI, setV, slV, seqL', keyD, startD, endsOf, List.map_cons, List.map_nil, List.length_cons, List.length_nil, List.replicate, List.cons_append, List.nil_append, Nat.reduceAdd, Nat.reduceSub, Nat.reduceLeDiff, List.getElem?_cons_zero, List.getElem?_cons_succ, Option.some.injEq, exists_eq_left', exists_eq_left, exists_eq', exists_eq, bindT, bindTs, List.set_cons_zero, List.set_cons_succ, ixV, atI0, atI1, atI2, atI3, cmpV, cmpEq, cmpIs, fOp, fCmp, binV, augV, Bi.wp, Bi.val, truD, wipeR, slotsT, slotsTs, Int.cast_ofNat_Int, seqV, seqF, seqL, Option.map_some, Option.map_none, D.ref.injEq, D.int.injEq, D.bl.injEq, MO.lst.injEq, exists_and_left, exists_and_right, updM_same, updM_updM, viewR, viewD, viewDs, flatD, ixN0, ixN1, ixN2, ifB, ifNB, Bool.not_true, Bool.not_false, Bool.false_eq_true, Bool.true_eq_false, if_true, if_false, ite_true, ite_false, true_and, and_true, or_true, true_or, or_false, false_or, false_and, and_false, String.reduceEq, eq_self, decide_true, decide_false, exIf, ne_eq, not_false_eq_true, Nat.zero_le, b_law_equal]
  simp (maxSteps := 400000) only [vSs, vS, vE, vEs, vT, vTo, vEo, vI, setV, slV, seqL', keyD, startD, endsOf, List.map_cons, List.map_nil, List.length_cons, List.length_nil, List.replicate, List.cons_append, List.nil_append, Nat.reduceAdd, Nat.reduceSub, Nat.reduceLeDiff, List.getElem?_cons_zero, List.getElem?_cons_succ, Option.some.injEq, exists_eq_left', exists_eq_left, exists_eq', exists_eq, bindT, bindTs, List.set_cons_zero, List.set_cons_succ, ixV, atI0, atI1, atI2, atI3, cmpV, cmpEq, cmpIs, fOp, fCmp, binV, augV, Bi.wp, Bi.val, truD, wipeR, slotsT, slotsTs, Int.cast_ofNat_Int, seqV, seqF, seqL, Option.map_some, Option.map_none, D.ref.injEq, D.int.injEq, D.bl.injEq, MO.lst.injEq, exists_and_left, exists_and_right, updM_same, updM_updM, viewR, viewD, viewDs, flatD, ixN0, ixN1, ixN2, ifB, ifNB, Bool.not_true, Bool.not_false, Bool.false_eq_true, Bool.true_eq_false, if_true, if_false, ite_true, ite_false, true_and, and_true, or_true, true_or, or_false, false_or, false_and, and_false, String.reduceEq, eq_self, decide_true, decide_false, exIf, ne_eq, not_false_eq_true, Nat.zero_le, b_law_equal_14]
  refine ⟨_, rfl, false, rfl, ?_⟩
  rw [if_neg Bool.false_ne_true]
  simp (maxSteps := 400000) only [vSs, vS, vE, vEs, vT, vTo, vEo, vI, setV, slV, seqL', keyD, startD, endsOf, List.map_cons, List.map_nil, List.length_cons, List.length_nil, List.replicate, List.cons_append, List.nil_append, Nat.reduceAdd, Nat.reduceSub, Nat.reduceLeDiff, List.getElem?_cons_zero, List.getElem?_cons_succ, Option.some.injEq, exists_eq_left', exists_eq_left, exists_eq', exists_eq, bindT, bindTs, List.set_cons_zero, List.set_cons_succ, ixV, atI0, atI1, atI2, atI3, cmpV, cmpEq, cmpIs, fOp, fCmp, binV, augV, Bi.wp, Bi.val, truD, wipeR, slotsT, slotsTs, Int.cast_ofNat_Int, seqV, seqF, seqL, Option.map_some, Option.map_none, D.ref.injEq, D.int.injEq, D.bl.injEq, MO.lst.injEq, exists_and_left, exists_and_right, updM_same, updM_updM, viewR, viewD, viewDs, flatD, ixN0, ixN1, ixN2, ifB, ifNB, Bool.not_true, Bool.not_false, Bool.false_eq_true, Bool.true_eq_false, if_true, if_false, ite_true, ite_false, true_and, and_true, or_true, true_or, or_false, false_or, false_and, and_false, String.reduceEq, eq_self, decide_true, decide_false, exIf, ne_eq, not_false_eq_true, Nat.zero_le, b_law_equal_13]
  refine ⟨_, rfl, false, rfl, ?_⟩
  rw [if_neg Bool.false_ne_true]
  simp (maxSteps := 400000) only [vSs, vS, vE, vEs, vT, vTo, vEo, vI, setV, slV, seqL', keyD, startD, endsOf, List.map_cons, List.map_nil, List.length_cons, List.length_nil, List.replicate, List.cons_append, List.nil_append, Nat.reduceAdd, Nat.reduceSub, Nat.reduceLeDiff, List.getElem?_cons_zero, List.getElem?_cons_succ, Option.some.injEq, exists_eq_left', exists_eq_left, exists_eq', exists_eq, bindT, bindTs, List.set_cons_zero, List.set_cons_succ, ixV, atI0, atI1, atI2, atI3, cmpV, cmpEq, cmpIs, fOp, fCmp, binV, augV, Bi.wp, Bi.val, truD, wipeR, slotsT, slotsTs, Int.cast_ofNat_Int, seqV, seqF, seqL, Option.map_some, Option.map_none, D.ref.injEq, D.int.injEq, D.bl.injEq, MO.lst.injEq, exists_and_left, exists_and_right, updM_same, updM_updM, viewR, viewD, viewDs, flatD, ixN0, ixN1, ixN2, ifB, ifNB, Bool.not_true, Bool.not_false, Bool.false_eq_true, Bool.true_eq_false, if_true, if_false, ite_true, ite_false, true_and, and_true, or_true, true_or, or_false, false_or, false_and, and_false, String.reduceEq, eq_self, decide_true, decide_false, exIf, ne_eq, not_false_eq_true, Nat.zero_le, b_law_equal_12]
  refine ⟨_, rfl, true, rfl, ?_⟩
  rw [if_pos rfl]
  simp (maxSteps := 400000) only [vSs, vS, vE, vEs, vT, vTo, vEo, vI, setV, slV, seqL', keyD, startD, endsOf, List.map_cons, List.map_nil, List.length_cons, List.length_nil, List.replicate, List.cons_append, List.nil_append, Nat.reduceAdd, Nat.reduceSub, Nat.reduceLeDiff, List.getElem?_cons_zero, List.getElem?_cons_succ, Option.some.injEq, exists_eq_left', exists_eq_left, exists_eq', exists_eq, bindT, bindTs, List.set_cons_zero, List.set_cons_succ, ixV, atI0, atI1, atI2, atI3, cmpV, cmpEq, cmpIs, fOp, fCmp, binV, augV, Bi.wp, Bi.val, truD, wipeR, slotsT, slotsTs, Int.cast_ofNat_Int, seqV, seqF, seqL, Option.map_some, Option.map_none, D.ref.injEq, D.int.injEq, D.bl.injEq, MO.lst.injEq, exists_and_left, exists_and_right, updM_same, updM_updM, viewR, viewD, viewDs, flatD, ixN0, ixN1, ixN2, ifB, ifNB, Bool.not_true, Bool.not_false, Bool.false_eq_true, Bool.true_eq_false, if_true, if_false, ite_true, ite_false, true_and, and_true, or_true, true_or, or_false, false_or, false_and, and_false, String.reduceEq, eq_self, decide_true, decide_false, exIf, ne_eq, not_false_eq_true, Nat.zero_le, b_law_equal_4]
  refine ⟨_, rfl, true, rfl, ?_⟩
  rw [if_pos rfl]
  exact ⟨_, Sub.refl _, q⟩
theorem eq_int {i : Int} (q : Q (.bl true) M) : vSs (G_eq C) b_law_equal (endsOf Q X) (startD 3 [.int i, .int i]) M := by
  simp (maxSteps := 400000) only [vSs, vS, vE, vEs, vT, vTo, vEo, vI, setV, slV, seqL', keyD, startD, endsOf, List.map_cons, List.map_nil, List.length_cons, List.length_nil, List.replicate, List.cons_append, List.nil_append, Nat.reduceAdd, Nat.reduceSub, Nat.reduceLeDiff, List.getElem?_cons_zero, List.getElem?_cons_succ, Option.some.injEq, exists_eq_left', exists_eq_left, exists_eq', exists_eq, bindT, bindTs, List.set_cons_zero, List.set_cons_succ, ixV, atI0, atI1, atI2, atI3, cmpV, cmpEq, cmpIs, fOp, fCmp, binV, augV, Bi.wp, Bi.val, truD, wipeR, slotsT, slotsTs, Int.cast_ofNat_Int, seqV, seqF, seqL, Option.map_some, Option.map_none, D.ref.injEq, D.int.injEq, D.bl.injEq, MO.lst.injEq, exists_and_left, exists_and_right, updM_same, updM_updM, viewR, viewD, viewDs, flatD, ixN0, ixN1, ixN2, ifB, ifNB, Bool.not_true, Bool.not_false, Bool.false_eq_true, Bool.true_eq_false, if_true, if_false, ite_true, ite_false, true_and, and_true, or_true, true_or, or_false, false_or, false_and, and_false, String.reduceEq, eq_self, decide_true, decide_false, exIf, ne_eq, not_false_eq_true, Nat.zero_le, b_law_equal]
  simp (maxSteps := 400000) only [vSs, vS, vE, vEs, vT, vTo, vEo, vI, setV, slV, seqL', keyD, startD, endsOf, List.map_cons, List.map_nil, List.length_cons, List.length_nil, List.replicate, List.cons_append, List.nil_append, Nat.reduceAdd, Nat.reduceSub, Nat.reduceLeDiff, List.getElem?_cons_zero, List.getElem?_cons_succ, Option.some.injEq, exists_eq_left', exists_eq_left, exists_eq', exists_eq, bindT, bindTs, List.set_cons_zero, List.set_cons_succ, ixV, atI0, atI1, atI2, atI3, cmpV, cmpEq, cmpIs, fOp, fCmp, binV, augV, Bi.wp, Bi.val, truD, wipeR, slotsT, slotsTs, Int.cast_ofNat_Int, seqV, seqF, seqL, Option.map_some, Option.map_none, D.ref.injEq, D.int.injEq, D.bl.injEq, MO.lst.injEq, exists_and_left, exists_and_right, updM_same, updM_updM, viewR, viewD, viewDs, flatD, ixN0, ixN1, ixN2, ifB, ifNB, Bool.not_true, Bool.not_false, Bool.false_eq_true, Bool.true_eq_false, if_true, if_false, ite_true, ite_false, true_and, and_true, or_true, true_or, or_false, false_or, false_and, and_false, String.reduceEq, eq_self, decide_true, decide_false, exIf, ne_eq, not_false_eq_true, Nat.zero_le, b_law_equal_14]
  refine ⟨_, rfl, false, rfl, ?_⟩
  rw [if_neg Bool.false_ne_true]
  simp (maxSteps := 400000) only [vSs, vS, vE, vEs, vT, vTo, vEo, vI, setV, slV, seqL', keyD, startD, endsOf, List.map_cons, List.map_nil, List.length_cons, List.length_nil, List.replicate, List.cons_append, List.nil_append, Nat.reduceAdd, Nat.reduceSub, Nat.reduceLeDiff, List.getElem?_cons_zero, List.getElem?_cons_succ, Option.some.injEq, exists_eq_left', exists_eq_left, exists_eq', exists_eq, bindT, bindTs, List.set_cons_zero, List.set_cons_succ, ixV, atI0, atI1, atI2, atI3, cmpV, cmpEq, cmpIs, fOp, fCmp, binV, augV, Bi.wp, Bi.val, truD, wipeR, slotsT, slotsTs, Int.cast_ofNat_Int, seqV, seqF, seqL, Option.map_some, Option.map_none, D.ref.injEq, D.int.injEq, D.bl.injEq, MO.lst.injEq, exists_and_left, exists_and_right, updM_same, updM_updM, viewR, viewD, viewDs, flatD, ixN0, ixN1, ixN2, ifB, ifNB, Bool.not_true, Bool.not_false, Bool.false_eq_true, Bool.true_eq_false, if_true, if_false, ite_true, ite_false, true_and, and_true, or_true, true_or, or_false, false_or, false_and, and_false, String.reduceEq, eq_self, decide_true, decide_false, exIf, ne_eq, not_false_eq_true, Nat.zero_le, b_law_equal_13]
  refine ⟨_, rfl, true, rfl, ?_⟩
  rw [if_pos rfl]
  simp (maxSteps := 400000) only [vSs, vS, vE, vEs, vT, vTo, vEo, vI, setV, slV, seqL', keyD, startD, endsOf, List.map_cons, List.map_nil, List.length_cons, List.length_nil, List.replicate, List.cons_append, List.nil_append, Nat.reduceAdd, Nat.reduceSub, Nat.reduceLeDiff, List.getElem?_cons_zero, List.getElem?_cons_succ, Option.some.injEq, exists_eq_left', exists_eq_left, exists_eq', exists_eq, bindT, bindTs, List.set_cons_zero, List.set_cons_succ, ixV, atI0, atI1, atI2, atI3, cmpV, cmpEq, cmpIs, fOp, fCmp, binV, augV, Bi.wp, Bi.val, truD, wipeR, slotsT, slotsTs, Int.cast_ofNat_Int, seqV, seqF, seqL, Option.map_some, Option.map_none, D.ref.injEq, D.int.injEq, D.bl.injEq, MO.lst.injEq, exists_and_left, exists_and_right, updM_same, updM_updM, viewR, viewD, viewDs, flatD, ixN0, ixN1, ixN2, ifB, ifNB, Bool.not_true, Bool.not_false, Bool.false_eq_true, Bool.true_eq_false, if_true, if_false, ite_true, ite_false, true_and, and_true, or_true, true_or, or_false, false_or, false_and, and_false, String.reduceEq, eq_self, decide_true, decide_false, exIf, ne_eq, not_false_eq_true, Nat.zero_le, b_law_equal_3]
  refine ⟨i, rfl, true, rfl, ?_⟩
  rw [if_pos rfl]
  exact ⟨_, Sub.refl _, q⟩
theorem allBl_rep : ∀ n, allBl (List.replicate n (D.bl true)) = some (List.replicate n true)
  | 0 => rfl
  | n + 1 => by rw [List.replicate_succ, List.replicate_succ]; show (allBl _).map _ = _; rw [allBl_rep n]; rfl
theorem eq_seq {a d : D} {xs : List D} (hc : ∀ x ∈ xs, ∀ (Q' : QE) (X' : XQ), Q' (.bl true) M → C [x, x] M Q' X') (hl : xs.length ≤ 100000) (h : (a = .tup xs ∧ d = .tup xs) ∨ (seqL' M a = some xs ∧ seqL' M d = some xs)) (q : Q (.bl true) M) : vSs (G_eq C) b_law_equal (endsOf Q X) (startD 3 [a, d]) M := by
  have lst : ∀ d, seqL' M d = some xs → cmpV .Is d .non = some false ∧ (∀ T, T = "bool" ∨ T = "int" ∨ T = "str" ∨ T = "tuple" → Bi.val M .isinst [d, .ty T] = some (.bl false)) ∧ Bi.val M .isinst [d, .ty "list"] = some (.bl true) ∧ Bi.val M .len [d] = some (.int xs.length) ∧ ∀ i, ixV M d (.int i) = atI xs i := by
    intro d hd
    cases d with
    | lst ys =>
      have : ys = xs := Option.some.inj hd
      subst this
      refine ⟨rfl, fun T hT => ?_, rfl, rfl, fun i => rfl⟩
      rcases hT with rfl | rfl | rfl | rfl <;> rfl
    | ref p =>
      have hp : M p = some (.lst xs) := by
        unfold seqL' at hd
        dsimp only at hd
        split at hd
        · rename_i ys e; rw [e]; rw [Option.some.inj hd]
        · cases hd
      refine ⟨rfl, fun T hT => ?_, ?_, ?_, fun i => ?_⟩
      · rcases hT with rfl | rfl | rfl | rfl <;> (show (instI M (.ref p) _).map D.bl = _; simp [instI, hp])
      · show (instI M (.ref p) _).map D.bl = _; simp [instI, hp]
      · show (seqV M (.ref p)).map _ = _; simp [seqV, hp]
      · show (match M p with | some (.lst ds) => atI ds i | some (.dK kvs) => valD kvs (.inl i) | _ => none) = _
        rw [hp]
    | _ => cases hd
  have key : cmpV .Is d .non = some false ∧ (∀ T, T = "bool" ∨ T = "int" ∨ T = "str" → Bi.val M .isinst [d, .ty T] = some (.bl false)) ∧ Bi.val M .len [a] = some (.int xs.length) ∧ Bi.val M .len [d] = some (.int xs.length) ∧ (∀ i, ixV M a (.int i) = atI xs i) ∧ (∀ i, ixV M d (.int i) = atI xs i) ∧
      ∃ b : Bool, Bi.val M .isinst [d, .ty "tuple"] = some (.bl b) ∧ Bi.val M .isinst [a, .ty "tuple"] = some (.bl b) ∧ Bi.val M .isinst [d, .ty "list"] = some (.bl !b) ∧ Bi.val M .isinst [a, .ty "list"] = some (.bl !b) := by
    rcases h with ⟨rfl, rfl⟩ | ⟨h1, h2⟩
    · refine ⟨rfl, fun T hT => ?_, rfl, rfl, fun i => rfl, fun i => rfl, true, rfl, rfl, rfl, rfl⟩
      rcases hT with rfl | rfl | rfl <;> rfl
    · obtain ⟨a1, a2, a3, a4, a5⟩ := lst a h1
      obtain ⟨d1, d2, d3, d4, d5⟩ := lst d h2
      exact ⟨d1, fun T hT => d2 T (by rcases hT with h | h | h <;> simp [h]), a4, d4, a5, d5, false, d2 _ (by simp), a2 _ (by simp), d3, a3⟩
  obtain ⟨k1, k2, k3, k4, k5, k6, b, k7, k8, k9, k10⟩ := key
  simp (maxSteps := 400000) only [vSs, vS, vE, vEs, vT, vTo, vEo, vI, setV, slV, seqL', keyD, startD, endsOf, List.map_cons, List.map_nil, List.length_cons, List.length_nil, List.replicate, List.cons_append, List.nil_append, Nat.reduceAdd, Nat.reduceSub, Nat.reduceLeDiff, List.getElem?_cons_zero, List.getElem?_cons_succ, Option.some.injEq, exists_eq_left', exists_eq_left, exists_eq', exists_eq, bindT, bindTs, List.set_cons_zero, List.set_cons_succ, ixV, atI0, atI1, atI2, atI3, cmpV, cmpEq, cmpIs, fOp, fCmp, binV, augV, Bi.wp, Bi.val, truD, wipeR, slotsT, slotsTs, Int.cast_ofNat_Int, seqV, seqF, seqL, Option.map_some, Option.map_none, D.ref.injEq, D.int.injEq, D.bl.injEq, MO.lst.injEq, exists_and_left, exists_and_right, updM_same, updM_updM, viewR, viewD, viewDs, flatD, ixN0, ixN1, ixN2, ifB, ifNB, Bool.not_true, Bool.not_false, Bool.false_eq_true, Bool.true_eq_false, if_true, if_false, ite_true, ite_false, true_and, and_true, or_true, true_or, or_false, false_or, false_and, and_false, String.reduceEq, eq_self, decide_true, decide_false, exIf, ne_eq, not_false_eq_true, Nat.zero_le, b_law_equal]
  refine ⟨false, k1, ?_⟩
  rw [if_neg Bool.false_ne_true]
  simp (maxSteps := 400000) only [vSs, vS, vE, vEs, vT, vTo, vEo, vI, setV, slV, seqL', keyD, startD, endsOf, List.map_cons, List.map_nil, List.length_cons, List.length_nil, List.replicate, List.cons_append, List.nil_append, Nat.reduceAdd, Nat.reduceSub, Nat.reduceLeDiff, List.getElem?_cons_zero, List.getElem?_cons_succ, Option.some.injEq, exists_eq_left', exists_eq_left, exists_eq', exists_eq, bindT, bindTs, List.set_cons_zero, List.set_cons_succ, ixV, atI0, atI1, atI2, atI3, cmpV, cmpEq, cmpIs, fOp, fCmp, binV, augV, Bi.wp, Bi.val, truD, wipeR, slotsT, slotsTs, Int.cast_ofNat_Int, seqV, seqF, seqL, Option.map_some, Option.map_none, D.ref.injEq, D.int.injEq, D.bl.injEq, MO.lst.injEq, exists_and_left, exists_and_right, updM_same, updM_updM, viewR, viewD, viewDs, flatD, ixN0, ixN1, ixN2, ifB, ifNB, Bool.not_true, Bool.not_false, Bool.false_eq_true, Bool.true_eq_false, if_true, if_false, ite_true, ite_false, true_and, and_true, or_true, true_or, or_false, false_or, false_and, and_false, String.reduceEq, eq_self, decide_true, decide_false, exIf, ne_eq, not_false_eq_true, Nat.zero_le, b_law_equal_14]
  refine ⟨_, k2 _ (.inl rfl), false, rfl, ?_⟩
  rw [if_neg Bool.false_ne_true]
  simp (maxSteps := 400000) only [vSs, vS, vE, vEs, vT, vTo, vEo, vI, setV, slV, seqL', keyD, startD, endsOf, List.map_cons, List.map_nil, List.length_cons, List.length_nil, List.replicate, List.cons_append, List.nil_append, Nat.reduceAdd, Nat.reduceSub, Nat.reduceLeDiff, List.getElem?_cons_zero, List.getElem?_cons_succ, Option.some.injEq, exists_eq_left', exists_eq_left, exists_eq', exists_eq, bindT, bindTs, List.set_cons_zero, List.set_cons_succ, ixV, atI0, atI1, atI2, atI3, cmpV, cmpEq, cmpIs, fOp, fCmp, binV, augV, Bi.wp, Bi.val, truD, wipeR, slotsT, slotsTs, Int.cast_ofNat_Int, seqV, seqF, seqL, Option.map_some, Option.map_none, D.ref.injEq, D.int.injEq, D.bl.injEq, MO.lst.injEq, exists_and_left, exists_and_right, updM_same, updM_updM, viewR, viewD, viewDs, flatD, ixN0, ixN1, ixN2, ifB, ifNB, Bool.not_true, Bool.not_false, Bool.false_eq_true, Bool.true_eq_false, if_true, if_false, ite_true, ite_false, true_and, and_true, or_true, true_or, or_false, false_or, false_and, and_false, String.reduceEq, eq_self, decide_true, decide_false, exIf, ne_eq, not_false_eq_true, Nat.zero_le, b_law_equal_13]
  refine ⟨_, k2 _ (.inr (.inl rfl)), false, rfl, ?_⟩
  rw [if_neg Bool.false_ne_true]
  simp (maxSteps := 400000) only [vSs, vS, vE, vEs, vT, vTo, vEo, vI, setV, slV, seqL', keyD, startD, endsOf, List.map_cons, List.map_nil, List.length_cons, List.length_nil, List.replicate, List.cons_append, List.nil_append, Nat.reduceAdd, Nat.reduceSub, Nat.reduceLeDiff, List.getElem?_cons_zero, List.getElem?_cons_succ, Option.some.injEq, exists_eq_left', exists_eq_left, exists_eq', exists_eq, bindT, bindTs, List.set_cons_zero, List.set_cons_succ, ixV, atI0, atI1, atI2, atI3, cmpV, cmpEq, cmpIs, fOp, fCmp, binV, augV, Bi.wp, Bi.val, truD, wipeR, slotsT, slotsTs, Int.cast_ofNat_Int, seqV, seqF, seqL, Option.map_some, Option.map_none, D.ref.injEq, D.int.injEq, D.bl.injEq, MO.lst.injEq, exists_and_left, exists_and_right, updM_same, updM_updM, viewR, viewD, viewDs, flatD, ixN0, ixN1, ixN2, ifB, ifNB, Bool.not_true, Bool.not_false, Bool.false_eq_true, Bool.true_eq_false, if_true, if_false, ite_true, ite_false, true_and, and_true, or_true, true_or, or_false, false_or, false_and, and_false, String.reduceEq, eq_self, decide_true, decide_false, exIf, ne_eq, not_false_eq_true, Nat.zero_le, b_law_equal_12]
  refine ⟨_, k2 _ (.inr (.inr rfl)), false, rfl, ?_⟩
  rw [if_neg Bool.false_ne_true]
  have fin : vSs (G_eq C) b_law_equal_9 (endsOf Q X) [some a, some d, none] M := by
    simp (maxSteps := 400000) only [vSs, vS, vE, vEs, vT, vTo, vEo, vI, setV, slV, seqL', keyD, startD, endsOf, List.map_cons, List.map_nil, List.length_cons, List.length_nil, List.replicate, List.cons_append, List.nil_append, Nat.reduceAdd, Nat.reduceSub, Nat.reduceLeDiff, List.getElem?_cons_zero, List.getElem?_cons_succ, Option.some.injEq, exists_eq_left', exists_eq_left, exists_eq', exists_eq, bindT, bindTs, List.set_cons_zero, List.set_cons_succ, ixV, atI0, atI1, atI2, atI3, cmpV, cmpEq, cmpIs, fOp, fCmp, binV, augV, Bi.wp, Bi.val, truD, wipeR, slotsT, slotsTs, Int.cast_ofNat_Int, seqV, seqF, seqL, Option.map_some, Option.map_none, D.ref.injEq, D.int.injEq, D.bl.injEq, MO.lst.injEq, exists_and_left, exists_and_right, updM_same, updM_updM, viewR, viewD, viewDs, flatD, ixN0, ixN1, ixN2, ifB, ifNB, Bool.not_true, Bool.not_false, Bool.false_eq_true, Bool.true_eq_false, if_true, if_false, ite_true, ite_false, true_and, and_true, or_true, true_or, or_false, false_or, false_and, and_false, String.reduceEq, eq_self, decide_true, decide_false, exIf, ne_eq, not_false_eq_true, Nat.zero_le, b_law_equal_9]
    refine ⟨_, k3, _, k4, false, by simp [cmpEq], ?_⟩
    rw [if_neg Bool.false_ne_true]
    simp (maxSteps := 400000) only [vSs, vS, vE, vEs, vT, vTo, vEo, vI, setV, slV, seqL', keyD, startD, endsOf, List.map_cons, List.map_nil, List.length_cons, List.length_nil, List.replicate, List.cons_append, List.nil_append, Nat.reduceAdd, Nat.reduceSub, Nat.reduceLeDiff, List.getElem?_cons_zero, List.getElem?_cons_succ, Option.some.injEq, exists_eq_left', exists_eq_left, exists_eq', exists_eq, bindT, bindTs, List.set_cons_zero, List.set_cons_succ, ixV, atI0, atI1, atI2, atI3, cmpV, cmpEq, cmpIs, fOp, fCmp, binV, augV, Bi.wp, Bi.val, truD, wipeR, slotsT, slotsTs, Int.cast_ofNat_Int, seqV, seqF, seqL, Option.map_some, Option.map_none, D.ref.injEq, D.int.injEq, D.bl.injEq, MO.lst.injEq, exists_and_left, exists_and_right, updM_same, updM_updM, viewR, viewD, viewDs, flatD, ixN0, ixN1, ixN2, ifB, ifNB, Bool.not_true, Bool.not_false, Bool.false_eq_true, Bool.true_eq_false, if_true, if_false, ite_true, ite_false, true_and, and_true, or_true, true_or, or_false, false_or, false_and, and_false, String.reduceEq, eq_self, decide_true, decide_false, exIf, ne_eq, not_false_eq_true, Nat.zero_le, b_law_equal_8]
    refine ⟨_, k4, _, rfl, by omega, by omega, by simp; omega, ?_⟩
    refine vComp_range (fun i => .int (0 + (i : Int))) (fun i acc M1 => M1 = M ∧ acc = List.replicate i (.bl true)) (fun i acc M1 hb hI => ?_) (fun acc M1 hI => ?_) ⟨rfl, rfl⟩
    · obtain ⟨rfl, rfl⟩ := hI
      have hin : i < xs.length := by simpa using hb
      have hat : atI xs (0 + (i : Int)) = some xs[i] := by
        rw [Int.zero_add]
        exact atI_nat (List.getElem?_eq_getElem hin)
      refine ⟨_, rfl, fun Nx hNx => ?_⟩
      simp (maxSteps := 400000) only [vSs, vS, vE, vEs, vT, vTo, vEo, vI, setV, slV, seqL', keyD, startD, endsOf, List.map_cons, List.map_nil, List.length_cons, List.length_nil, List.replicate, List.cons_append, List.nil_append, Nat.reduceAdd, Nat.reduceSub, Nat.reduceLeDiff, List.getElem?_cons_zero, List.getElem?_cons_succ, Option.some.injEq, exists_eq_left', exists_eq_left, exists_eq', exists_eq, bindT, bindTs, List.set_cons_zero, List.set_cons_succ, ixV, atI0, atI1, atI2, atI3, cmpV, cmpEq, cmpIs, fOp, fCmp, binV, augV, Bi.wp, Bi.val, truD, wipeR, slotsT, slotsTs, Int.cast_ofNat_Int, seqV, seqF, seqL, Option.map_some, Option.map_none, D.ref.injEq, D.int.injEq, D.bl.injEq, MO.lst.injEq, exists_and_left, exists_and_right, updM_same, updM_updM, viewR, viewD, viewDs, flatD, ixN0, ixN1, ixN2, ifB, ifNB, Bool.not_true, Bool.not_false, Bool.false_eq_true, Bool.true_eq_false, if_true, if_false, ite_true, ite_false, true_and, and_true, or_true, true_or, or_false, false_or, false_and, and_false, String.reduceEq, eq_self, decide_true, decide_false, exIf, ne_eq, not_false_eq_true, Nat.zero_le]
      refine ⟨_, (k5 _).trans hat, _, (k6 _).trans hat, hc _ (List.getElem_mem hin) _ _ (hNx _ _ ⟨rfl, ?_⟩)⟩
      rw [List.replicate_succ']
    · obtain ⟨rfl, rfl⟩ := hI
      refine ⟨.bl true, ?_, _, Sub.refl _, q⟩
      show (allBl (List.replicate _ (D.bl true))).map (fun bs => D.bl (bs.all id)) = _
      rw [allBl_rep]
      simp
  have ten : vSs (G_eq C) b_law_equal_10 (endsOf Q X) [some a, some d, none] M := by
    simp (maxSteps := 400000) only [vSs, vS, vE, vEs, vT, vTo, vEo, vI, setV, slV, seqL', keyD, startD, endsOf, List.map_cons, List.map_nil, List.length_cons, List.length_nil, List.replicate, List.cons_append, List.nil_append, Nat.reduceAdd, Nat.reduceSub, Nat.reduceLeDiff, List.getElem?_cons_zero, List.getElem?_cons_succ, Option.some.injEq, exists_eq_left', exists_eq_left, exists_eq', exists_eq, bindT, bindTs, List.set_cons_zero, List.set_cons_succ, ixV, atI0, atI1, atI2, atI3, cmpV, cmpEq, cmpIs, fOp, fCmp, binV, augV, Bi.wp, Bi.val, truD, wipeR, slotsT, slotsTs, Int.cast_ofNat_Int, seqV, seqF, seqL, Option.map_some, Option.map_none, D.ref.injEq, D.int.injEq, D.bl.injEq, MO.lst.injEq, exists_and_left, exists_and_right, updM_same, updM_updM, viewR, viewD, viewDs, flatD, ixN0, ixN1, ixN2, ifB, ifNB, Bool.not_true, Bool.not_false, Bool.false_eq_true, Bool.true_eq_false, if_true, if_false, ite_true, ite_false, true_and, and_true, or_true, true_or, or_false, false_or, false_and, and_false, String.reduceEq, eq_self, decide_true, decide_false, exIf, ne_eq, not_false_eq_true, Nat.zero_le, b_law_equal_10]
    refine ⟨_, k9, !b, rfl, ?_⟩
    cases b with
    | true =>
      rw [if_neg (by decide)]
      exact fin
    | false =>
      rw [if_pos (by decide)]
      refine ⟨_, k10, true, rfl, ?_⟩
      rw [if_pos rfl]
      exact fin
  simp (maxSteps := 400000) only [vSs, vS, vE, vEs, vT, vTo, vEo, vI, setV, slV, seqL', keyD, startD, endsOf, List.map_cons, List.map_nil, List.length_cons, List.length_nil, List.replicate, List.cons_append, List.nil_append, Nat.reduceAdd, Nat.reduceSub, Nat.reduceLeDiff, List.getElem?_cons_zero, List.getElem?_cons_succ, Option.some.injEq, exists_eq_left', exists_eq_left, exists_eq', exists_eq, bindT, bindTs, List.set_cons_zero, List.set_cons_succ, ixV, atI0, atI1, atI2, atI3, cmpV, cmpEq, cmpIs, fOp, fCmp, binV, augV, Bi.wp, Bi.val, truD, wipeR, slotsT, slotsTs, Int.cast_ofNat_Int, seqV, seqF, seqL, Option.map_some, Option.map_none, D.ref.injEq, D.int.injEq, D.bl.injEq, MO.lst.injEq, exists_and_left, exists_and_right, updM_same, updM_updM, viewR, viewD, viewDs, flatD, ixN0, ixN1, ixN2, ifB, ifNB, Bool.not_true, Bool.not_false, Bool.false_eq_true, Bool.true_eq_false, if_true, if_false, ite_true, ite_false, true_and, and_true, or_true, true_or, or_false, false_or, false_and, and_false, String.reduceEq, eq_self, decide_true, decide_false, exIf, ne_eq, not_false_eq_true, Nat.zero_le, b_law_equal_11]
  refine ⟨_, k7, b, rfl, ?_⟩
  cases b with
  | true =>
    rw [if_pos rfl]
    refine ⟨_, k8, true, rfl, ?_⟩
    rw [if_pos rfl]
    exact ten
  | false =>
    rw [if_neg Bool.false_ne_true]
    exact ten
end
def Fal : Con := fun _ _ _ _ => False
def eqP (n : Nat) : Con := fun ds M Q _ => ∃ x, ds = [x, x] ∧ pureN n x ∧ Q (.bl true) M
def eqD : Nat → Con
  | 0 => Fal
  | n + 1 => eqP n
theorem w_eq (n : Nat) (ds : List D) (M : Mo) (Q : QE) (X : XQ) (h : eqD (n + 1) ds M Q X) : vSs (G_eq (eqD n)) b_law_equal (endsOf Q X) (startD 3 ds) M := by
  obtain ⟨x, rfl, hp, q⟩ := h
  cases x with
  | int i => exact eq_int q
  | str s => exact eq_str q
  | tup xs =>
    cases n with
    | zero => exact hp.elim
    | succ n => exact eq_seq (fun x hx Q' X' q' => ⟨x, rfl, hp.2 x hx, q'⟩) hp.1 (.inl ⟨rfl, rfl⟩) q
  | _ => cases n <;> exact hp.elim
/-- the law's own call -/
def C_eqT : Con := fun ds M Q _ => ∃ a d xs, ds = [a, d] ∧ xs.length ≤ 100000 ∧ (∀ x ∈ xs, pureN 1 x) ∧ ((a = .tup xs ∧ d = .tup xs) ∨ (seqL' M a = some xs ∧ seqL' M d = some xs)) ∧ Q (.bl true) M
theorem w_eqT (ds : List D) (M : Mo) (Q : QE) (X : XQ) (h : C_eqT ds M Q X) : vSs (G_eq (eqD 2)) b_law_equal (endsOf Q X) (startD 3 ds) M := by
  obtain ⟨a, d, xs, rfl, hl, hp, hc, q⟩ := h
  exact eq_seq (fun x hx Q' X' q' => ⟨x, rfl, hp x hx, q'⟩) hl hc q
end K85
namespace K85
open PySem PySem.Spec PyProof.Rows L2 Vp
/-! ### laid out -/
theorem word_at {ws : List Str} {r : Int} (h0 : 0 ≤ r) (h1 : r < ws.length) : ∃ w, atI (ws.map D.str) r = some (.str w) ∧ w ∈ ws ∧ ws[r.toNat]? = some w := by
  obtain ⟨j, rfl⟩ := Int.eq_ofNat_of_zero_le h0
  have hj : j < ws.length := by omega
  exact ⟨ws[j], atI_nat (by rw [List.getElem?_map, List.getElem?_eq_getElem hj]; rfl), List.getElem_mem hj, by simp [hj]⟩
def C_gap : Con := fun ds M Q _ => ∃ (p : Addr) (t : Bool) (ns : List Int), ds = [.ref p, .bl t] ∧ Stream M p ns ∧ ∀ g M', g ∈ GAPS → (t = false → g ≠ "") → Mv M M' p ns → Q (.str g) M'
theorem gaps_map : ([.str "", .str " ", .str "\n", .str "\t", .str "  ", .str "\n\n ", .str " ; a (remark) ! ~ ;\n", .str ";\n", .str " ;)\n\t"] : List D) = GAPS.map D.str := rfl
theorem gaps_tail : ∀ (j : Nat) (g : Str), GAPS[j + 1]? = some g → g ≠ "" := by
  intro j g h
  have h1 : (GAPS.tail)[j]? = some g := by rw [List.getElem?_tail]; exact h
  have h2 : ∀ g ∈ GAPS.tail, g ≠ "" := by decide +kernel
  exact h2 g (List.mem_of_getElem? h1)
theorem w_gap (ds : List D) (M : Mo) (Q : QE) (X : XQ) (h : C_gap ds M Q X) : vSs { fns := [F_next] } b_law_gap (endsOf Q X) (startD 3 ds) M := by
  obtain ⟨p, t, ns, rfl, hs, q⟩ := h
  simp (maxSteps := 400000) only [vSs, vS, vE, vEs, vT, vTo, vEo, vI, setV, slV, seqL', keyD, startD, endsOf, List.map_cons, List.map_nil, List.length_cons, List.length_nil, List.replicate, List.cons_append, List.nil_append, Nat.reduceAdd, Nat.reduceSub, Nat.reduceLeDiff, List.getElem?_cons_zero, List.getElem?_cons_succ, Option.some.injEq, exists_eq_left', exists_eq_left, exists_eq', exists_eq, bindT, bindTs, List.set_cons_zero, List.set_cons_succ, ixV, atI0, atI1, atI2, atI3, cmpV, cmpEq, cmpIs, fOp, fCmp, binV, augV, Bi.wp, Bi.val, truD, wipeR, slotsT, slotsTs, Int.cast_ofNat_Int, seqV, seqF, seqL, Option.map_some, Option.map_none, D.ref.injEq, D.int.injEq, D.bl.injEq, MO.lst.injEq, exists_and_left, exists_and_right, updM_same, updM_updM, viewR, viewD, viewDs, flatD, ixN0, ixN1, ixN2, ifB, ifNB, Bool.not_true, Bool.not_false, Bool.false_eq_true, Bool.true_eq_false, if_true, if_false, ite_true, ite_false, true_and, and_true, or_true, true_or, or_false, false_or, false_and, and_false, String.reduceEq, eq_self, decide_true, decide_false, exIf, ne_eq, not_false_eq_true, Nat.zero_le, b_law_gap, gaps_map]
  have hl : (GAPS.length : Int) = 9 := rfl
  cases t with
  | true =>
    simp (maxSteps := 400000) only [vSs, vS, vE, vEs, vT, vTo, vEo, vI, setV, slV, seqL', keyD, startD, endsOf, List.map_cons, List.map_nil, List.length_cons, List.length_nil, List.replicate, List.cons_append, List.nil_append, Nat.reduceAdd, Nat.reduceSub, Nat.reduceLeDiff, List.getElem?_cons_zero, List.getElem?_cons_succ, Option.some.injEq, exists_eq_left', exists_eq_left, exists_eq', exists_eq, bindT, bindTs, List.set_cons_zero, List.set_cons_succ, ixV, atI0, atI1, atI2, atI3, cmpV, cmpEq, cmpIs, fOp, fCmp, binV, augV, Bi.wp, Bi.val, truD, wipeR, slotsT, slotsTs, Int.cast_ofNat_Int, seqV, seqF, seqL, Option.map_some, Option.map_none, D.ref.injEq, D.int.injEq, D.bl.injEq, MO.lst.injEq, exists_and_left, exists_and_right, updM_same, updM_updM, viewR, viewD, viewDs, flatD, ixN0, ixN1, ixN2, ifB, ifNB, Bool.not_true, Bool.not_false, Bool.false_eq_true, Bool.true_eq_false, if_true, if_false, ite_true, ite_false, true_and, and_true, or_true, true_or, or_false, false_or, false_and, and_false, String.reduceEq, eq_self, decide_true, decide_false, exIf, ne_eq, not_false_eq_true, Nat.zero_le, b_law_gap_3]
    refine ⟨by simp [GAPS], ?_⟩
    simp (maxSteps := 400000) only [vSs, vS, vE, vEs, vT, vTo, vEo, vI, setV, slV, seqL', keyD, startD, endsOf, List.map_cons, List.map_nil, List.length_cons, List.length_nil, List.replicate, List.cons_append, List.nil_append, Nat.reduceAdd, Nat.reduceSub, Nat.reduceLeDiff, List.getElem?_cons_zero, List.getElem?_cons_succ, Option.some.injEq, exists_eq_left', exists_eq_left, exists_eq', exists_eq, bindT, bindTs, List.set_cons_zero, List.set_cons_succ, ixV, atI0, atI1, atI2, atI3, cmpV, cmpEq, cmpIs, fOp, fCmp, binV, augV, Bi.wp, Bi.val, truD, wipeR, slotsT, slotsTs, Int.cast_ofNat_Int, seqV, seqF, seqL, Option.map_some, Option.map_none, D.ref.injEq, D.int.injEq, D.bl.injEq, MO.lst.injEq, exists_and_left, exists_and_right, updM_same, updM_updM, viewR, viewD, viewDs, flatD, ixN0, ixN1, ixN2, ifB, ifNB, Bool.not_true, Bool.not_false, Bool.false_eq_true, Bool.true_eq_false, if_true, if_false, ite_true, ite_false, true_and, and_true, or_true, true_or, or_false, false_or, false_and, and_false, String.reduceEq, eq_self, decide_true, decide_false, exIf, ne_eq, not_false_eq_true, Nat.zero_le, b_law_gap_1]
    refine use_next hs (by decide) (by decide) fun r M1 r0 r1 mv => ?_
    obtain ⟨w, h1, h2, _⟩ := word_at (ws := GAPS) r0 (by omega)
    exact ⟨_, h1, _, Sub.refl _, q w M1 h2 nofun mv⟩
  | false =>
    simp (maxSteps := 400000) only [vSs, vS, vE, vEs, vT, vTo, vEo, vI, setV, slV, seqL', keyD, startD, endsOf, List.map_cons, List.map_nil, List.length_cons, List.length_nil, List.replicate, List.cons_append, List.nil_append, Nat.reduceAdd, Nat.reduceSub, Nat.reduceLeDiff, List.getElem?_cons_zero, List.getElem?_cons_succ, Option.some.injEq, exists_eq_left', exists_eq_left, exists_eq', exists_eq, bindT, bindTs, List.set_cons_zero, List.set_cons_succ, ixV, atI0, atI1, atI2, atI3, cmpV, cmpEq, cmpIs, fOp, fCmp, binV, augV, Bi.wp, Bi.val, truD, wipeR, slotsT, slotsTs, Int.cast_ofNat_Int, seqV, seqF, seqL, Option.map_some, Option.map_none, D.ref.injEq, D.int.injEq, D.bl.injEq, MO.lst.injEq, exists_and_left, exists_and_right, updM_same, updM_updM, viewR, viewD, viewDs, flatD, ixN0, ixN1, ixN2, ifB, ifNB, Bool.not_true, Bool.not_false, Bool.false_eq_true, Bool.true_eq_false, if_true, if_false, ite_true, ite_false, true_and, and_true, or_true, true_or, or_false, false_or, false_and, and_false, String.reduceEq, eq_self, decide_true, decide_false, exIf, ne_eq, not_false_eq_true, Nat.zero_le, b_law_gap_3]
    refine ⟨by simp [GAPS], ?_⟩
    simp (maxSteps := 400000) only [vSs, vS, vE, vEs, vT, vTo, vEo, vI, setV, slV, seqL', keyD, startD, endsOf, List.map_cons, List.map_nil, List.length_cons, List.length_nil, List.replicate, List.cons_append, List.nil_append, Nat.reduceAdd, Nat.reduceSub, Nat.reduceLeDiff, List.getElem?_cons_zero, List.getElem?_cons_succ, Option.some.injEq, exists_eq_left', exists_eq_left, exists_eq', exists_eq, bindT, bindTs, List.set_cons_zero, List.set_cons_succ, ixV, atI0, atI1, atI2, atI3, cmpV, cmpEq, cmpIs, fOp, fCmp, binV, augV, Bi.wp, Bi.val, truD, wipeR, slotsT, slotsTs, Int.cast_ofNat_Int, seqV, seqF, seqL, Option.map_some, Option.map_none, D.ref.injEq, D.int.injEq, D.bl.injEq, MO.lst.injEq, exists_and_left, exists_and_right, updM_same, updM_updM, viewR, viewD, viewDs, flatD, ixN0, ixN1, ixN2, ifB, ifNB, Bool.not_true, Bool.not_false, Bool.false_eq_true, Bool.true_eq_false, if_true, if_false, ite_true, ite_false, true_and, and_true, or_true, true_or, or_false, false_or, false_and, and_false, String.reduceEq, eq_self, decide_true, decide_false, exIf, ne_eq, not_false_eq_true, Nat.zero_le, b_law_gap_2]
    refine use_next hs (by decide) (by decide) fun r M1 r0 r1 mv => ?_
    obtain ⟨w, h1, h2, h3⟩ := word_at (ws := GAPS) (r := 1 + r) (by omega) (by omega)
    refine ⟨.int (1 + r), rfl, _, h1, _, Sub.refl _, q w M1 h2 (fun _ => gaps_tail r.toNat w ?_) mv⟩
    rw [show r.toNat + 1 = (1 + r).toNat by omega]
    exact h3
theorem gaps_len : ∀ g ∈ GAPS, g.length ≤ 20 := by decide +kernel
theorem inV_par {M : Mo} {w : Str} (h : WdOk w) : inV M (.str w) (.str "()") = some (isPar w) := congrArg some (wds_in w h)
abbrev F_gap : Fn := ⟨"_law_gap", 2, C_gap⟩
/-- where each word stands -/
def Places (x : Str) (ws : List Str) (ps : List PL) : Prop := ∀ (k : Nat) (w : Str) (p : PL), ws[k]? = some w → ps[k]? = some p → ∃ t m toks r, tx x = t ++ tx w ++ r ∧ p = lcF (1, 1) t ∧ Pre t m toks ∧ (m = true → isPar w = true)
theorem end_small {x : Str} (h : x.length ≤ 1000000) : smallP (lcF (1, 1) (tx x)) := by
  obtain ⟨h1, h2, h3, h4⟩ := lcF_bound (tx x) (1, 1) (by decide) (by decide)
  have hl := tx_len x
  dsimp only at h3 h4
  exact ⟨⟨by omega, by omega⟩, by omega, by omega⟩
theorem Places.more {x y : Str} {ws : List Str} {ps : List PL} (h : Places x ws ps) : Places (x ++ y) ws ps := fun k w p e1 e2 => by
  obtain ⟨t, m, toks, r, h1, h2, h3, h4⟩ := h k w p e1 e2
  exact ⟨t, m, toks, r ++ tx y, by rw [tx_app, h1, List.append_assoc], h2, h3, h4⟩
def C_laid : Con := fun ds M Q _ => ∃ (p : Addr) (ws : List Str) (ns : List Int), ds = [.ref p, .lst (ws.map .str)] ∧ Stream M p ns ∧ (∀ w ∈ ws, WdOk w) ∧ ws.length ≤ 1000 ∧
  ∀ x ps M', ws.length = ps.length → x.length ≤ 100000 → Sc (tx x) 1 1 (ws.zip ps) none → (∀ z ∈ ps, smallP z) → Places x ws ps → Mv M M' p ns → Q (.tup [.str x, .lst (ps.map plD)]) M'
theorem w_laid (ds : List D) (M : Mo) (Q : QE) (X : XQ) (h : C_laid ds M Q X) : vSs { fns := [F_gap, F_next] } b_law_laid (endsOf Q X) (startD 7 ds) M := by
  obtain ⟨p, ws, ns, rfl, hs, hw, hl, q⟩ := h
  simp (maxSteps := 400000) only [vSs, vS, vE, vEs, vT, vTo, vEo, vI, setV, slV, seqL', keyD, startD, endsOf, List.map_cons, List.map_nil, List.length_cons, List.length_nil, List.replicate, List.cons_append, List.nil_append, Nat.reduceAdd, Nat.reduceSub, Nat.reduceLeDiff, List.getElem?_cons_zero, List.getElem?_cons_succ, Option.some.injEq, exists_eq_left', exists_eq_left, exists_eq', exists_eq, bindT, bindTs, List.set_cons_zero, List.set_cons_succ, ixV, atI0, atI1, atI2, atI3, cmpV, cmpEq, cmpIs, fOp, fCmp, binV, augV, Bi.wp, Bi.val, truD, wipeR, slotsT, slotsTs, Int.cast_ofNat_Int, seqV, seqF, seqL, Option.map_some, Option.map_none, D.ref.injEq, D.int.injEq, D.bl.injEq, MO.lst.injEq, exists_and_left, exists_and_right, updM_same, updM_updM, viewR, viewD, viewDs, flatD, ixN0, ixN1, ixN2, ifB, ifNB, Bool.not_true, Bool.not_false, Bool.false_eq_true, Bool.true_eq_false, if_true, if_false, ite_true, ite_false, true_and, and_true, or_true, true_or, or_false, false_or, false_and, and_false, String.reduceEq, eq_self, decide_true, decide_false, exIf, ne_eq, not_false_eq_true, Nat.zero_le, b_law_laid]
  refine ⟨p, true, ns, rfl, hs, fun g M1 hg _ m1 => ?_⟩
  simp (maxSteps := 400000) only [vSs, vS, vE, vEs, vT, vTo, vEo, vI, setV, slV, seqL', keyD, startD, endsOf, List.map_cons, List.map_nil, List.length_cons, List.length_nil, List.replicate, List.cons_append, List.nil_append, Nat.reduceAdd, Nat.reduceSub, Nat.reduceLeDiff, List.getElem?_cons_zero, List.getElem?_cons_succ, Option.some.injEq, exists_eq_left', exists_eq_left, exists_eq', exists_eq, bindT, bindTs, List.set_cons_zero, List.set_cons_succ, ixV, atI0, atI1, atI2, atI3, cmpV, cmpEq, cmpIs, fOp, fCmp, binV, augV, Bi.wp, Bi.val, truD, wipeR, slotsT, slotsTs, Int.cast_ofNat_Int, seqV, seqF, seqL, Option.map_some, Option.map_none, D.ref.injEq, D.int.injEq, D.bl.injEq, MO.lst.injEq, exists_and_left, exists_and_right, updM_same, updM_updM, viewR, viewD, viewDs, flatD, ixN0, ixN1, ixN2, ifB, ifNB, Bool.not_true, Bool.not_false, Bool.false_eq_true, Bool.true_eq_false, if_true, if_false, ite_true, ite_false, true_and, and_true, or_true, true_or, or_false, false_or, false_and, and_false, String.reduceEq, eq_self, decide_true, decide_false, exIf, ne_eq, not_false_eq_true, Nat.zero_le, b_law_laid_10]
  intro P hP
  have l0 := Loc.new (ds := []) m1 hP
  simp (maxSteps := 400000) only [vSs, vS, vE, vEs, vT, vTo, vEo, vI, setV, slV, seqL', keyD, startD, endsOf, List.map_cons, List.map_nil, List.length_cons, List.length_nil, List.replicate, List.cons_append, List.nil_append, Nat.reduceAdd, Nat.reduceSub, Nat.reduceLeDiff, List.getElem?_cons_zero, List.getElem?_cons_succ, Option.some.injEq, exists_eq_left', exists_eq_left, exists_eq', exists_eq, bindT, bindTs, List.set_cons_zero, List.set_cons_succ, ixV, atI0, atI1, atI2, atI3, cmpV, cmpEq, cmpIs, fOp, fCmp, binV, augV, Bi.wp, Bi.val, truD, wipeR, slotsT, slotsTs, Int.cast_ofNat_Int, seqV, seqF, seqL, Option.map_some, Option.map_none, D.ref.injEq, D.int.injEq, D.bl.injEq, MO.lst.injEq, exists_and_left, exists_and_right, updM_same, updM_updM, viewR, viewD, viewDs, flatD, ixN0, ixN1, ixN2, ifB, ifNB, Bool.not_true, Bool.not_false, Bool.false_eq_true, Bool.true_eq_false, if_true, if_false, ite_true, ite_false, true_and, and_true, or_true, true_or, or_false, false_or, false_and, and_false, String.reduceEq, eq_self, decide_true, decide_false, exIf, ne_eq, not_false_eq_true, Nat.zero_le, b_law_laid_9]
  have hg20 := gaps_len g hg
  refine vFor_idx (α := D) (fun d i => prD (.int (i : Nat)) d) (fun k ρ M2 => ∃ (x : Str) (ps : List PL) (m : Bool) (e4 e5 e6 : Option D), ρ = [some (.ref p), some (.lst (ws.map .str)), some (.str x), some (.ref P), e4, e5, e6] ∧ Loc M M2 p ns P (ps.map plD) ∧ ps.length = k ∧ Pre (tx x) m ((ws.take k).zip ps) ∧ (m = true → ∀ w, ws[k]? = some w → isPar w = true) ∧ x.length ≤ 20 + 30 * k ∧ (∀ z ∈ ps, smallP z) ∧ Places x ws ps)
    (fun k d ρ M2 hk hI => ?_) (fun ρ M2 hI => ?_) ⟨g, [], false, none, none, none, rfl, l0, rfl, Pre.start hg, nofun, by omega, by simp, fun k w p e1 e2 => by simp at e2⟩
  · obtain ⟨x, ps, m, e4, e5, e6, rfl, lo, hps, pre, hm, hx, hsm, hpl⟩ := hI
    obtain ⟨w, hwk, rfl⟩ : ∃ w, ws[k]? = some w ∧ D.str w = d := by
      rw [List.getElem?_map] at hk
      cases e : ws[k]? with
      | none => rw [e] at hk; cases hk
      | some w => rw [e] at hk; exact ⟨w, rfl, Option.some.inj hk⟩
    have hwm := hw w (List.mem_of_getElem? hwk)
    have hkn : k < ws.length := (List.getElem?_eq_some_iff.mp hwk).1
    have hw4 := wds_len w hwm
    refine ⟨_, rfl, fun Nx hNx => ?_⟩
    simp (maxSteps := 400000) only [vSs, vS, vE, vEs, vT, vTo, vEo, vI, setV, slV, seqL', keyD, startD, endsOf, List.map_cons, List.map_nil, List.length_cons, List.length_nil, List.replicate, List.cons_append, List.nil_append, Nat.reduceAdd, Nat.reduceSub, Nat.reduceLeDiff, List.getElem?_cons_zero, List.getElem?_cons_succ, Option.some.injEq, exists_eq_left', exists_eq_left, exists_eq', exists_eq, bindT, bindTs, List.set_cons_zero, List.set_cons_succ, ixV, atI0, atI1, atI2, atI3, cmpV, cmpEq, cmpIs, fOp, fCmp, binV, augV, Bi.wp, Bi.val, truD, wipeR, slotsT, slotsTs, Int.cast_ofNat_Int, seqV, seqF, seqL, Option.map_some, Option.map_none, D.ref.injEq, D.int.injEq, D.bl.injEq, MO.lst.injEq, exists_and_left, exists_and_right, updM_same, updM_updM, viewR, viewD, viewDs, flatD, ixN0, ixN1, ixN2, ifB, ifNB, Bool.not_true, Bool.not_false, Bool.false_eq_true, Bool.true_eq_false, if_true, if_false, ite_true, ite_false, true_and, and_true, or_true, true_or, or_false, false_or, false_and, and_false, String.reduceEq, eq_self, decide_true, decide_false, exIf, ne_eq, not_false_eq_true, Nat.zero_le, b_law_laid_4, nl_eq]
    refine ⟨⟨_, lo.at'⟩, ⟨_, rfl⟩, _, rfl, _, rfl, by omega, ⟨_, rfl⟩, _, rfl, _, rfl, ?_⟩
    rw [place_line, place_col]
    refine ⟨_, lo.at', by simp; omega, ?_⟩
    have lo2 := lo.set (es := (ps ++ [lcF (1, 1) (tx x)]).map plD)
    rw [List.map_append] at lo2
    have lo2 : Loc M (updM M2 P (.lst (ps.map plD ++ [plD (lcF (1, 1) (tx x))]))) p ns P (ps.map plD ++ [plD (lcF (1, 1) (tx x))]) := lo2
    have hx1 : (x ++ w).length = x.length + w.length := by rw [tx_len, tx_app, List.length_append, ← tx_len, ← tx_len]
    have fin : ∀ (t : Bool) (K : EndsD), K.nx = Nx → (t = true → (k + 1 = ws.length ∨ isPar w = true ∨ ∃ w', ws[k + 1]? = some w' ∧ isPar w' = true)) → vSs { fns := [F_gap, F_next] } b_law_laid_1 K [some (.ref p), some (.lst (ws.map .str)), some (.str (x ++ w)), some (.ref P), some (.int (k : Nat)), some (.str w), some (.bl t)] (updM M2 P (.lst (ps.map plD ++ [plD (lcF (1, 1) (tx x))]))) := by
      intro t K hK ht
      simp (maxSteps := 400000) only [vSs, vS, vE, vEs, vT, vTo, vEo, vI, setV, slV, seqL', keyD, startD, endsOf, List.map_cons, List.map_nil, List.length_cons, List.length_nil, List.replicate, List.cons_append, List.nil_append, Nat.reduceAdd, Nat.reduceSub, Nat.reduceLeDiff, List.getElem?_cons_zero, List.getElem?_cons_succ, Option.some.injEq, exists_eq_left', exists_eq_left, exists_eq', exists_eq, bindT, bindTs, List.set_cons_zero, List.set_cons_succ, ixV, atI0, atI1, atI2, atI3, cmpV, cmpEq, cmpIs, fOp, fCmp, binV, augV, Bi.wp, Bi.val, truD, wipeR, slotsT, slotsTs, Int.cast_ofNat_Int, seqV, seqF, seqL, Option.map_some, Option.map_none, D.ref.injEq, D.int.injEq, D.bl.injEq, MO.lst.injEq, exists_and_left, exists_and_right, updM_same, updM_updM, viewR, viewD, viewDs, flatD, ixN0, ixN1, ixN2, ifB, ifNB, Bool.not_true, Bool.not_false, Bool.false_eq_true, Bool.true_eq_false, if_true, if_false, ite_true, ite_false, true_and, and_true, or_true, true_or, or_false, false_or, false_and, and_false, String.reduceEq, eq_self, decide_true, decide_false, exIf, ne_eq, not_false_eq_true, Nat.zero_le, b_law_laid_1]
      refine ⟨p, t, ns, rfl, lo2.mv.2, fun g M4 hg hgt m4 => ?_⟩
      have hg20 := gaps_len g hg
      have hx2 : (x ++ w ++ g).length = x.length + w.length + g.length := by rw [tx_len, tx_app, List.length_append, ← tx_len, ← tx_len, hx1]
      have p1 := pre.word hwm (fun h => hm h w hwk)
      have p2 := p1.gap hg
      refine ⟨_, if_pos (by omega), ?_⟩
      rw [hK]
      refine hNx _ _ ⟨x ++ w ++ g, ps ++ [lcF (1, 1) (tx x)], (!isPar w && decide (g = "")), _, _, _, rfl, ?_, by simp [hps], ?_, fun hm2 w' hw' => ?_, by omega, fun z hz => ?_, fun j w' p' e1 e2 => ?_⟩
      · rw [List.map_append]
        exact lo2.draw m4
      · rw [tx_app, tx_app, List.take_succ, hwk]
        have hz : (List.take k ws ++ (some w).toList).zip (ps ++ [lcF (1, 1) (tx x)]) = (List.take k ws).zip ps ++ [(w, (lcF (1, 1) (tx x)).1, (lcF (1, 1) (tx x)).2)] := by
          rw [List.zip_append (by simp; omega)]; rfl
        rw [hz]
        exact p2
      · rw [Bool.and_eq_true, decide_eq_true_eq] at hm2
        have htt : t = true := by
          cases t with
          | true => rfl
          | false => exact absurd hm2.2 (hgt rfl)
        rcases ht htt with h | h | ⟨w2, h1, h2⟩
        · rw [List.getElem?_eq_none (by omega)] at hw'; cases hw'
        · have := hm2.1; rw [h] at this; cases this
        · rw [hw'] at h1; cases h1; exact h2
      · rcases List.mem_append.mp hz with hz | hz
        · exact hsm z hz
        · rw [List.mem_singleton.mp hz]; exact end_small (by omega)
      · by_cases hj : j < ps.length
        · rw [List.getElem?_append_left hj] at e2
          exact (hpl.more.more) j w' p' e1 e2
        · rw [List.getElem?_append_right (by omega)] at e2
          cases hd : j - ps.length with
          | succ n => rw [hd] at e2; simp at e2
          | zero =>
            rw [hd] at e2
            obtain rfl : lcF (1, 1) (tx x) = p' := by simpa using e2
            have hjk : j = k := by omega
            subst hjk
            rw [hwk] at e1
            cases e1
            exact ⟨tx x, m, _, tx g, by rw [tx_app, tx_app], rfl, pre, fun h => hm h w hwk⟩
    simp (maxSteps := 400000) only [vSs, vS, vE, vEs, vT, vTo, vEo, vI, setV, slV, seqL', keyD, startD, endsOf, List.map_cons, List.map_nil, List.length_cons, List.length_nil, List.replicate, List.cons_append, List.nil_append, Nat.reduceAdd, Nat.reduceSub, Nat.reduceLeDiff, List.getElem?_cons_zero, List.getElem?_cons_succ, Option.some.injEq, exists_eq_left', exists_eq_left, exists_eq', exists_eq, bindT, bindTs, List.set_cons_zero, List.set_cons_succ, ixV, atI0, atI1, atI2, atI3, cmpV, cmpEq, cmpIs, fOp, fCmp, binV, augV, Bi.wp, Bi.val, truD, wipeR, slotsT, slotsTs, Int.cast_ofNat_Int, seqV, seqF, seqL, Option.map_some, Option.map_none, D.ref.injEq, D.int.injEq, D.bl.injEq, MO.lst.injEq, exists_and_left, exists_and_right, updM_same, updM_updM, viewR, viewD, viewDs, flatD, ixN0, ixN1, ixN2, ifB, ifNB, Bool.not_true, Bool.not_false, Bool.false_eq_true, Bool.true_eq_false, if_true, if_false, ite_true, ite_false, true_and, and_true, or_true, true_or, or_false, false_or, false_and, and_false, String.reduceEq, eq_self, decide_true, decide_false, exIf, ne_eq, not_false_eq_true, Nat.zero_le, b_law_laid_3]
    refine ⟨by omega, ?_⟩
    simp (maxSteps := 400000) only [vSs, vS, vE, vEs, vT, vTo, vEo, vI, setV, slV, seqL', keyD, startD, endsOf, List.map_cons, List.map_nil, List.length_cons, List.length_nil, List.replicate, List.cons_append, List.nil_append, Nat.reduceAdd, Nat.reduceSub, Nat.reduceLeDiff, List.getElem?_cons_zero, List.getElem?_cons_succ, Option.some.injEq, exists_eq_left', exists_eq_left, exists_eq', exists_eq, bindT, bindTs, List.set_cons_zero, List.set_cons_succ, ixV, atI0, atI1, atI2, atI3, cmpV, cmpEq, cmpIs, fOp, fCmp, binV, augV, Bi.wp, Bi.val, truD, wipeR, slotsT, slotsTs, Int.cast_ofNat_Int, seqV, seqF, seqL, Option.map_some, Option.map_none, D.ref.injEq, D.int.injEq, D.bl.injEq, MO.lst.injEq, exists_and_left, exists_and_right, updM_same, updM_updM, viewR, viewD, viewDs, flatD, ixN0, ixN1, ixN2, ifB, ifNB, Bool.not_true, Bool.not_false, Bool.false_eq_true, Bool.true_eq_false, if_true, if_false, ite_true, ite_false, true_and, and_true, or_true, true_or, or_false, false_or, false_and, and_false, String.reduceEq, eq_self, decide_true, decide_false, exIf, ne_eq, not_false_eq_true, Nat.zero_le, b_law_laid_2]
    have hlw : ((ws.map D.str).length : Int) = ws.length := by simp
    rw [hlw]
    refine iteI (fun hc => ?_) fun hc => ?_
    · exact fin true _ rfl fun _ => .inl (by omega)
    refine ⟨_, inV_par hwm, iteI (fun hc2 => ?_) fun hc2 => ?_⟩
    · exact fin true _ rfl fun _ => .inr (.inl hc2)
    have hk1 : k + 1 < ws.length := by omega
    have hw1 : ws[k + 1]? = some ws[k + 1] := List.getElem?_eq_getElem hk1
    refine ⟨_, atI_nat (j := k + 1) (by rw [List.getElem?_map, hw1]; rfl), _, inV_par (hw _ (List.getElem_mem hk1)), ?_⟩
    exact fin (isPar ws[k + 1]) _ rfl fun h => .inr (.inr ⟨_, hw1, h⟩)
  · obtain ⟨x, ps, m, e4, e5, e6, rfl, lo, hps, pre, hm, hx, hsm, hpl⟩ := hI
    simp (maxSteps := 400000) only [vSs, vS, vE, vEs, vT, vTo, vEo, vI, setV, slV, seqL', keyD, startD, endsOf, List.map_cons, List.map_nil, List.length_cons, List.length_nil, List.replicate, List.cons_append, List.nil_append, Nat.reduceAdd, Nat.reduceSub, Nat.reduceLeDiff, List.getElem?_cons_zero, List.getElem?_cons_succ, Option.some.injEq, exists_eq_left', exists_eq_left, exists_eq', exists_eq, bindT, bindTs, List.set_cons_zero, List.set_cons_succ, ixV, atI0, atI1, atI2, atI3, cmpV, cmpEq, cmpIs, fOp, fCmp, binV, augV, Bi.wp, Bi.val, truD, wipeR, slotsT, slotsTs, Int.cast_ofNat_Int, seqV, seqF, seqL, Option.map_some, Option.map_none, D.ref.injEq, D.int.injEq, D.bl.injEq, MO.lst.injEq, exists_and_left, exists_and_right, updM_same, updM_updM, viewR, viewD, viewDs, flatD, ixN0, ixN1, ixN2, ifB, ifNB, Bool.not_true, Bool.not_false, Bool.false_eq_true, Bool.true_eq_false, if_true, if_false, ite_true, ite_false, true_and, and_true, or_true, true_or, or_false, false_or, false_and, and_false, String.reduceEq, eq_self, decide_true, decide_false, exIf, ne_eq, not_false_eq_true, Nat.zero_le, b_law_laid_8]
    refine use_next lo.mv.2 (by decide) (by decide) fun r M3 r0 r1 m3 => ?_
    refine ⟨decide (r = 1), rfl, ?_⟩
    have lo3 := lo.draw m3
    have hlen : ps.length = ws.length := by rw [hps]; simp
    have hzip : (ws.take (ws.map D.str).length).zip ps = ws.zip ps := by rw [List.length_map, List.take_length]
    have hxl : x.length ≤ 31000 := by simp at hx; omega
    rw [hzip] at pre
    have fin : ∀ (y : Str) (K : EndsD), K.rt = (endsOf Q X).rt → y.length ≤ 100000 → Sc (tx y) 1 1 (ws.zip ps) none → Places y ws ps → vSs { fns := [F_gap, F_next] } b_law_laid_7 K [some (.ref p), some (.lst (ws.map .str)), some (.str y), some (.ref P), e4, e5, e6] M3 := by
      intro y K hK yl ty hy
      simp (maxSteps := 400000) only [vSs, vS, vE, vEs, vT, vTo, vEo, vI, setV, slV, seqL', keyD, startD, endsOf, List.map_cons, List.map_nil, List.length_cons, List.length_nil, List.replicate, List.cons_append, List.nil_append, Nat.reduceAdd, Nat.reduceSub, Nat.reduceLeDiff, List.getElem?_cons_zero, List.getElem?_cons_succ, Option.some.injEq, exists_eq_left', exists_eq_left, exists_eq', exists_eq, bindT, bindTs, List.set_cons_zero, List.set_cons_succ, ixV, atI0, atI1, atI2, atI3, cmpV, cmpEq, cmpIs, fOp, fCmp, binV, augV, Bi.wp, Bi.val, truD, wipeR, slotsT, slotsTs, Int.cast_ofNat_Int, seqV, seqF, seqL, Option.map_some, Option.map_none, D.ref.injEq, D.int.injEq, D.bl.injEq, MO.lst.injEq, exists_and_left, exists_and_right, updM_same, updM_updM, viewR, viewD, viewDs, flatD, ixN0, ixN1, ixN2, ifB, ifNB, Bool.not_true, Bool.not_false, Bool.false_eq_true, Bool.true_eq_false, if_true, if_false, ite_true, ite_false, true_and, and_true, or_true, true_or, or_false, false_or, false_and, and_false, String.reduceEq, eq_self, decide_true, decide_false, exIf, ne_eq, not_false_eq_true, Nat.zero_le, b_law_laid_7, lo3.at']
      simp (maxSteps := 400000) only [vSs, vS, vE, vEs, vT, vTo, vEo, vI, setV, slV, seqL', keyD, startD, endsOf, List.map_cons, List.map_nil, List.length_cons, List.length_nil, List.replicate, List.cons_append, List.nil_append, Nat.reduceAdd, Nat.reduceSub, Nat.reduceLeDiff, List.getElem?_cons_zero, List.getElem?_cons_succ, Option.some.injEq, exists_eq_left', exists_eq_left, exists_eq', exists_eq, bindT, bindTs, List.set_cons_zero, List.set_cons_succ, ixV, atI0, atI1, atI2, atI3, cmpV, cmpEq, cmpIs, fOp, fCmp, binV, augV, Bi.wp, Bi.val, truD, wipeR, slotsT, slotsTs, Int.cast_ofNat_Int, seqV, seqF, seqL, Option.map_some, Option.map_none, D.ref.injEq, D.int.injEq, D.bl.injEq, MO.lst.injEq, exists_and_left, exists_and_right, updM_same, updM_updM, viewR, viewD, viewDs, flatD, ixN0, ixN1, ixN2, ifB, ifNB, Bool.not_true, Bool.not_false, Bool.false_eq_true, Bool.true_eq_false, if_true, if_false, ite_true, ite_false, true_and, and_true, or_true, true_or, or_false, false_or, false_and, and_false, String.reduceEq, eq_self, decide_true, decide_false, exIf, ne_eq, not_false_eq_true, Nat.zero_le, b_law_laid_6]
      rw [hK]
      exact ⟨_, Sub.refl _, q y ps _ hlen.symm yl ty hsm hy lo3.frz⟩
    have hnz : (ws.zip ps).length ≤ 10000 := by rw [List.length_zip]; omega
    by_cases hr : r = 1
    · rw [decide_eq_true hr, if_pos rfl]
      simp (maxSteps := 400000) only [vSs, vS, vE, vEs, vT, vTo, vEo, vI, setV, slV, seqL', keyD, startD, endsOf, List.map_cons, List.map_nil, List.length_cons, List.length_nil, List.replicate, List.cons_append, List.nil_append, Nat.reduceAdd, Nat.reduceSub, Nat.reduceLeDiff, List.getElem?_cons_zero, List.getElem?_cons_succ, Option.some.injEq, exists_eq_left', exists_eq_left, exists_eq', exists_eq, bindT, bindTs, List.set_cons_zero, List.set_cons_succ, ixV, atI0, atI1, atI2, atI3, cmpV, cmpEq, cmpIs, fOp, fCmp, binV, augV, Bi.wp, Bi.val, truD, wipeR, slotsT, slotsTs, Int.cast_ofNat_Int, seqV, seqF, seqL, Option.map_some, Option.map_none, D.ref.injEq, D.int.injEq, D.bl.injEq, MO.lst.injEq, exists_and_left, exists_and_right, updM_same, updM_updM, viewR, viewD, viewDs, flatD, ixN0, ixN1, ixN2, ifB, ifNB, Bool.not_true, Bool.not_false, Bool.false_eq_true, Bool.true_eq_false, if_true, if_false, ite_true, ite_false, true_and, and_true, or_true, true_or, or_false, false_or, false_and, and_false, String.reduceEq, eq_self, decide_true, decide_false, exIf, ne_eq, not_false_eq_true, Nat.zero_le, b_law_laid_5]
      have hE : ((ENDS : Str)).length = 16 := by decide
      have hx1 : (x ++ ENDS).length = x.length + 16 := by rw [tx_len, tx_app, List.length_append, ← tx_len, ← tx_len, hE]
      refine ⟨by rw [hE]; omega, ?_⟩
      refine fin (x ++ ENDS) _ rfl (by omega) ?_ hpl.more
      rw [tx_app]; exact pre.fin2
    · rw [decide_eq_false hr, if_neg Bool.false_ne_true]
      exact fin x _ rfl (by omega) pre.fin hpl
end K85
namespace K85
open PySem PySem.Spec PyProof.Rows L2 Vp
/-! ### words drawn -/
def C_words : Con := fun ds M Q _ => ∃ (p : Addr) (ns : List Int), ds = [.ref p] ∧ Stream M p ns ∧ ∀ (ws : List Str) M', (∀ w ∈ ws, WdOk w) → ws.length ≤ 20 → Mv M M' p ns → Q (.lst (ws.map .str)) M'
theorem word_len : (tx WORD).length = 70 ∧ WORD.length = 70 := by decide +kernel
theorem two_par : ∀ j, j < 2 → ∃ c, (tx ("()" : Str))[j]? = some c ∧ isPar ⟨#[c]⟩ = true := by
  intro j hj
  rcases j with _ | _ | j
  · exact ⟨40, by decide +kernel, by decide +kernel⟩
  · exact ⟨41, by decide +kernel, by decide +kernel⟩
  · omega
theorem join_ones (cs : List Nat) : tx (Txt.join (Str.ofString "") (cs.map fun c => (⟨#[c]⟩ : Str))) = cs := by
  show tx (Builtin.Str.glued (Str.ofString "") _) = _
  rw [StrLaws.glued_eq_join]
  have e0 : tx (Str.ofString "") = [] := by decide +kernel
  induction cs with
  | nil => exact e0
  | cons c r ih =>
    cases r with
    | nil => rfl
    | cons d r =>
      show tx (⟨#[c]⟩ ++ Str.ofString "" ++ Str.join (Str.ofString "") ((d :: r).map fun c => (⟨#[c]⟩ : Str))) = _
      rw [tx_app, tx_app, ih, e0]
      rfl
theorem w_words (ds : List D) (M : Mo) (Q : QE) (X : XQ) (h : C_words ds M Q X) : vSs { fns := [F_next] } b_law_words (endsOf Q X) (startD 6 ds) M := by
  obtain ⟨p, ns, rfl, hs, q⟩ := h
  simp (maxSteps := 400000) only [vSs, vS, vE, vEs, vT, vTo, vEo, vI, setV, slV, seqL', keyD, startD, endsOf, List.map_cons, List.map_nil, List.length_cons, List.length_nil, List.replicate, List.cons_append, List.nil_append, Nat.reduceAdd, Nat.reduceSub, Nat.reduceLeDiff, List.getElem?_cons_zero, List.getElem?_cons_succ, Option.some.injEq, exists_eq_left', exists_eq_left, exists_eq', exists_eq, bindT, bindTs, List.set_cons_zero, List.set_cons_succ, ixV, atI0, atI1, atI2, atI3, cmpV, cmpEq, cmpIs, fOp, fCmp, binV, augV, Bi.wp, Bi.val, truD, wipeR, slotsT, slotsTs, Int.cast_ofNat_Int, seqV, seqF, seqL, Option.map_some, Option.map_none, D.ref.injEq, D.int.injEq, D.bl.injEq, MO.lst.injEq, exists_and_left, exists_and_right, updM_same, updM_updM, viewR, viewD, viewDs, flatD, ixN0, ixN1, ixN2, ifB, ifNB, Bool.not_true, Bool.not_false, Bool.false_eq_true, Bool.true_eq_false, if_true, if_false, ite_true, ite_false, true_and, and_true, or_true, true_or, or_false, false_or, false_and, and_false, String.reduceEq, eq_self, decide_true, decide_false, exIf, ne_eq, not_false_eq_true, Nat.zero_le, b_law_words]
  simp (maxSteps := 400000) only [vSs, vS, vE, vEs, vT, vTo, vEo, vI, setV, slV, seqL', keyD, startD, endsOf, List.map_cons, List.map_nil, List.length_cons, List.length_nil, List.replicate, List.cons_append, List.nil_append, Nat.reduceAdd, Nat.reduceSub, Nat.reduceLeDiff, List.getElem?_cons_zero, List.getElem?_cons_succ, Option.some.injEq, exists_eq_left', exists_eq_left, exists_eq', exists_eq, bindT, bindTs, List.set_cons_zero, List.set_cons_succ, ixV, atI0, atI1, atI2, atI3, cmpV, cmpEq, cmpIs, fOp, fCmp, binV, augV, Bi.wp, Bi.val, truD, wipeR, slotsT, slotsTs, Int.cast_ofNat_Int, seqV, seqF, seqL, Option.map_some, Option.map_none, D.ref.injEq, D.int.injEq, D.bl.injEq, MO.lst.injEq, exists_and_left, exists_and_right, updM_same, updM_updM, viewR, viewD, viewDs, flatD, ixN0, ixN1, ixN2, ifB, ifNB, Bool.not_true, Bool.not_false, Bool.false_eq_true, Bool.true_eq_false, if_true, if_false, ite_true, ite_false, true_and, and_true, or_true, true_or, or_false, false_or, false_and, and_false, String.reduceEq, eq_self, decide_true, decide_false, exIf, ne_eq, not_false_eq_true, Nat.zero_le, b_law_words_8]
  intro P hP
  have l0 := Loc.new (ds := []) (Mv.refl hs) hP
  simp (maxSteps := 400000) only [vSs, vS, vE, vEs, vT, vTo, vEo, vI, setV, slV, seqL', keyD, startD, endsOf, List.map_cons, List.map_nil, List.length_cons, List.length_nil, List.replicate, List.cons_append, List.nil_append, Nat.reduceAdd, Nat.reduceSub, Nat.reduceLeDiff, List.getElem?_cons_zero, List.getElem?_cons_succ, Option.some.injEq, exists_eq_left', exists_eq_left, exists_eq', exists_eq, bindT, bindTs, List.set_cons_zero, List.set_cons_succ, ixV, atI0, atI1, atI2, atI3, cmpV, cmpEq, cmpIs, fOp, fCmp, binV, augV, Bi.wp, Bi.val, truD, wipeR, slotsT, slotsTs, Int.cast_ofNat_Int, seqV, seqF, seqL, Option.map_some, Option.map_none, D.ref.injEq, D.int.injEq, D.bl.injEq, MO.lst.injEq, exists_and_left, exists_and_right, updM_same, updM_updM, viewR, viewD, viewDs, flatD, ixN0, ixN1, ixN2, ifB, ifNB, Bool.not_true, Bool.not_false, Bool.false_eq_true, Bool.true_eq_false, if_true, if_false, ite_true, ite_false, true_and, and_true, or_true, true_or, or_false, false_or, false_and, and_false, String.reduceEq, eq_self, decide_true, decide_false, exIf, ne_eq, not_false_eq_true, Nat.zero_le, b_law_words_7]
  refine use_next l0.mv.2 (by decide) (by decide) fun r M1 r0 r1 m1 => ?_
  refine ⟨r, rfl, by omega, by omega, ?_⟩
  obtain ⟨nr, rfl⟩ := Int.eq_ofNat_of_zero_le r0
  have hnr : ((nr : Int)).toNat = nr := by simp
  refine vFor_range (fun i => .int (0 + (i : Int))) (fun i ρ M2 => ∃ (ws : List Str) (e3 e4 : Option D), ρ = [some (.ref p), some (.str WORD), some (.ref P), e3, e4, none] ∧ (∀ w ∈ ws, WdOk w) ∧ ws.length ≤ i ∧ Loc M M2 p ns P (ws.map .str)) (fun i ρ M2 hi hI => ?_) (fun ρ M2 hI => ?_) ⟨[], none, none, rfl, by simp, by simp, l0.draw m1⟩
  · obtain ⟨ws, e3, e4, rfl, hw, hl, lo⟩ := hI
    have hi20 : i < 20 := by simp at hi; omega
    refine ⟨_, rfl, fun Nx hNx => ?_⟩
    simp (maxSteps := 400000) only [vSs, vS, vE, vEs, vT, vTo, vEo, vI, setV, slV, seqL', keyD, startD, endsOf, List.map_cons, List.map_nil, List.length_cons, List.length_nil, List.replicate, List.cons_append, List.nil_append, Nat.reduceAdd, Nat.reduceSub, Nat.reduceLeDiff, List.getElem?_cons_zero, List.getElem?_cons_succ, Option.some.injEq, exists_eq_left', exists_eq_left, exists_eq', exists_eq, bindT, bindTs, List.set_cons_zero, List.set_cons_succ, ixV, atI0, atI1, atI2, atI3, cmpV, cmpEq, cmpIs, fOp, fCmp, binV, augV, Bi.wp, Bi.val, truD, wipeR, slotsT, slotsTs, Int.cast_ofNat_Int, seqV, seqF, seqL, Option.map_some, Option.map_none, D.ref.injEq, D.int.injEq, D.bl.injEq, MO.lst.injEq, exists_and_left, exists_and_right, updM_same, updM_updM, viewR, viewD, viewDs, flatD, ixN0, ixN1, ixN2, ifB, ifNB, Bool.not_true, Bool.not_false, Bool.false_eq_true, Bool.true_eq_false, if_true, if_false, ite_true, ite_false, true_and, and_true, or_true, true_or, or_false, false_or, false_and, and_false, String.reduceEq, eq_self, decide_true, decide_false, exIf, ne_eq, not_false_eq_true, Nat.zero_le, b_law_words_4]
    refine use_next lo.mv.2 (by decide) (by decide) fun pk M3 p0 p1 m3 => ?_
    have lo3 := lo.draw m3
    have put : ∀ (w : Str) (M4 : Mo), WdOk w → Loc M M4 p ns P (ws.map .str) → Nx [some (.ref p), some (.str WORD), some (.ref P), some (.int (0 + (i : Int))), some (.int pk), none] (updM M4 P (.lst (ws.map .str ++ [.str w]))) := fun w M4 hw0 lo4 => by
      refine hNx _ _ ⟨ws ++ [w], _, _, rfl, fun z hz => ?_, by simp; omega, by rw [List.map_append]; exact lo4.set⟩
      rcases List.mem_append.mp hz with hz | hz
      · exact hw z hz
      · rw [List.mem_singleton.mp hz]; exact hw0
    simp (maxSteps := 400000) only [vSs, vS, vE, vEs, vT, vTo, vEo, vI, setV, slV, seqL', keyD, startD, endsOf, List.map_cons, List.map_nil, List.length_cons, List.length_nil, List.replicate, List.cons_append, List.nil_append, Nat.reduceAdd, Nat.reduceSub, Nat.reduceLeDiff, List.getElem?_cons_zero, List.getElem?_cons_succ, Option.some.injEq, exists_eq_left', exists_eq_left, exists_eq', exists_eq, bindT, bindTs, List.set_cons_zero, List.set_cons_succ, ixV, atI0, atI1, atI2, atI3, cmpV, cmpEq, cmpIs, fOp, fCmp, binV, augV, Bi.wp, Bi.val, truD, wipeR, slotsT, slotsTs, Int.cast_ofNat_Int, seqV, seqF, seqL, Option.map_some, Option.map_none, D.ref.injEq, D.int.injEq, D.bl.injEq, MO.lst.injEq, exists_and_left, exists_and_right, updM_same, updM_updM, viewR, viewD, viewDs, flatD, ixN0, ixN1, ixN2, ifB, ifNB, Bool.not_true, Bool.not_false, Bool.false_eq_true, Bool.true_eq_false, if_true, if_false, ite_true, ite_false, true_and, and_true, or_true, true_or, or_false, false_or, false_and, and_false, String.reduceEq, eq_self, decide_true, decide_false, exIf, ne_eq, not_false_eq_true, Nat.zero_le, b_law_words_3]
    refine iteI (fun hlt => ?_) fun hge => ?_
    · obtain ⟨j, rfl⟩ := Int.eq_ofNat_of_zero_le p0
      obtain ⟨c, h1, h2⟩ := two_par j (by omega)
      simp (maxSteps := 400000) only [vSs, vS, vE, vEs, vT, vTo, vEo, vI, setV, slV, seqL', keyD, startD, endsOf, List.map_cons, List.map_nil, List.length_cons, List.length_nil, List.replicate, List.cons_append, List.nil_append, Nat.reduceAdd, Nat.reduceSub, Nat.reduceLeDiff, List.getElem?_cons_zero, List.getElem?_cons_succ, Option.some.injEq, exists_eq_left', exists_eq_left, exists_eq', exists_eq, bindT, bindTs, List.set_cons_zero, List.set_cons_succ, ixV, atI0, atI1, atI2, atI3, cmpV, cmpEq, cmpIs, fOp, fCmp, binV, augV, Bi.wp, Bi.val, truD, wipeR, slotsT, slotsTs, Int.cast_ofNat_Int, seqV, seqF, seqL, Option.map_some, Option.map_none, D.ref.injEq, D.int.injEq, D.bl.injEq, MO.lst.injEq, exists_and_left, exists_and_right, updM_same, updM_updM, viewR, viewD, viewDs, flatD, ixN0, ixN1, ixN2, ifB, ifNB, Bool.not_true, Bool.not_false, Bool.false_eq_true, Bool.true_eq_false, if_true, if_false, ite_true, ite_false, true_and, and_true, or_true, true_or, or_false, false_or, false_and, and_false, String.reduceEq, eq_self, decide_true, decide_false, exIf, ne_eq, not_false_eq_true, Nat.zero_le, b_law_words_1, lo3.at']
      refine ⟨_, ixV_at (M := M3) (by decide) (atI_nat h1), by simp; omega, ?_⟩
      exact put ⟨#[c]⟩ M3 (.inl h2) lo3
    · simp (maxSteps := 400000) only [vSs, vS, vE, vEs, vT, vTo, vEo, vI, setV, slV, seqL', keyD, startD, endsOf, List.map_cons, List.map_nil, List.length_cons, List.length_nil, List.replicate, List.cons_append, List.nil_append, Nat.reduceAdd, Nat.reduceSub, Nat.reduceLeDiff, List.getElem?_cons_zero, List.getElem?_cons_succ, Option.some.injEq, exists_eq_left', exists_eq_left, exists_eq', exists_eq, bindT, bindTs, List.set_cons_zero, List.set_cons_succ, ixV, atI0, atI1, atI2, atI3, cmpV, cmpEq, cmpIs, fOp, fCmp, binV, augV, Bi.wp, Bi.val, truD, wipeR, slotsT, slotsTs, Int.cast_ofNat_Int, seqV, seqF, seqL, Option.map_some, Option.map_none, D.ref.injEq, D.int.injEq, D.bl.injEq, MO.lst.injEq, exists_and_left, exists_and_right, updM_same, updM_updM, viewR, viewD, viewDs, flatD, ixN0, ixN1, ixN2, ifB, ifNB, Bool.not_true, Bool.not_false, Bool.false_eq_true, Bool.true_eq_false, if_true, if_false, ite_true, ite_false, true_and, and_true, or_true, true_or, or_false, false_or, false_and, and_false, String.reduceEq, eq_self, decide_true, decide_false, exIf, ne_eq, not_false_eq_true, Nat.zero_le, b_law_words_2, lo3.at', word_len.2]
      refine ⟨⟨_, rfl⟩, ?_⟩
      refine use_next lo3.mv.2 (by decide) (by decide) fun r2 M4 r20 r21 m4 => ?_
      have lo4 := lo3.draw m4
      refine ⟨.int (1 + r2), rfl, 1 + r2, rfl, by omega, by omega, ?_⟩
      obtain ⟨n2, hn2, hn6⟩ : ∃ n2 : Nat, (1 + r2).toNat = n2 ∧ 1 ≤ n2 ∧ n2 ≤ 6 := ⟨_, rfl, by omega, by omega⟩
      rw [hn2]
      refine ⟨by simp; omega, ?_⟩
      refine vComp_range (fun i => .int (0 + (i : Int))) (fun j acc M5 => ∃ cs : List Nat, cs.length = j ∧ (∀ c ∈ cs, isW c = true) ∧ acc = cs.map (fun c => D.str ⟨#[c]⟩) ∧ Loc M M5 p ns P (ws.map .str)) (fun j acc M5 hj hI => ?_) (fun acc M5 hI => ?_) ⟨[], rfl, by simp, rfl, lo4⟩
      · obtain ⟨cs, hcl, hcw, rfl, lo5⟩ := hI
        refine ⟨_, rfl, fun Ny hNy => ?_⟩
        simp (maxSteps := 400000) only [vSs, vS, vE, vEs, vT, vTo, vEo, vI, setV, slV, seqL', keyD, startD, endsOf, List.map_cons, List.map_nil, List.length_cons, List.length_nil, List.replicate, List.cons_append, List.nil_append, Nat.reduceAdd, Nat.reduceSub, Nat.reduceLeDiff, List.getElem?_cons_zero, List.getElem?_cons_succ, Option.some.injEq, exists_eq_left', exists_eq_left, exists_eq', exists_eq, bindT, bindTs, List.set_cons_zero, List.set_cons_succ, ixV, atI0, atI1, atI2, atI3, cmpV, cmpEq, cmpIs, fOp, fCmp, binV, augV, Bi.wp, Bi.val, truD, wipeR, slotsT, slotsTs, Int.cast_ofNat_Int, seqV, seqF, seqL, Option.map_some, Option.map_none, D.ref.injEq, D.int.injEq, D.bl.injEq, MO.lst.injEq, exists_and_left, exists_and_right, updM_same, updM_updM, viewR, viewD, viewDs, flatD, ixN0, ixN1, ixN2, ifB, ifNB, Bool.not_true, Bool.not_false, Bool.false_eq_true, Bool.true_eq_false, if_true, if_false, ite_true, ite_false, true_and, and_true, or_true, true_or, or_false, false_or, false_and, and_false, String.reduceEq, eq_self, decide_true, decide_false, exIf, ne_eq, not_false_eq_true, Nat.zero_le, word_len.2]
        refine use_next lo5.mv.2 (by decide) (by decide) fun r3 M6 r30 r31 m6 => ?_
        obtain ⟨j3, rfl⟩ := Int.eq_ofNat_of_zero_le r30
        have hj3 : j3 < (tx WORD).length := by rw [word_len.1]; omega
        refine ⟨_, ixV_at (M := M6) (by rw [word_len.2]; decide) (atI_nat (List.getElem?_eq_getElem hj3)), hNy _ _ ⟨cs ++ [(tx WORD)[j3]], by simp [hcl], fun c hc => ?_, by simp, lo5.draw m6⟩⟩
        rcases List.mem_append.mp hc with hc | hc
        · exact hcw c hc
        · rw [List.mem_singleton.mp hc]; exact decide_eq_true (List.getElem_mem hj3)
      · obtain ⟨cs, hcl, hcw, rfl, lo5⟩ := hI
        have sm : ((cs.map fun c => (⟨#[c]⟩ : Str)).map fun x => x.length).sum = cs.length := by
          rw [List.map_map]
          clear hcl hcw lo5
          induction cs with
          | nil => rfl
          | cons c r ih => rw [List.map_cons, List.sum_cons, ih, List.length_cons]; show 1 + r.length = _; omega
        have l0 : (Str.ofString "").length = 0 := by decide +kernel
        refine ⟨_, rfl, cs.map (fun c => ⟨#[c]⟩), by rw [List.map_map]; rfl, by rw [sm, l0]; omega, _, lo5.at', by simp; omega, ?_⟩
        refine put _ M5 (.inr ?_) lo5
        rw [join_ones]
        exact ⟨fun e => by rw [e] at hcl; simp at hcl; omega, by omega, List.all_eq_true.mpr hcw⟩
  · obtain ⟨ws, e3, e4, rfl, hw, hl, lo⟩ := hI
    rw [hnr] at hl
    simp (maxSteps := 400000) only [vSs, vS, vE, vEs, vT, vTo, vEo, vI, setV, slV, seqL', keyD, startD, endsOf, List.map_cons, List.map_nil, List.length_cons, List.length_nil, List.replicate, List.cons_append, List.nil_append, Nat.reduceAdd, Nat.reduceSub, Nat.reduceLeDiff, List.getElem?_cons_zero, List.getElem?_cons_succ, Option.some.injEq, exists_eq_left', exists_eq_left, exists_eq', exists_eq, bindT, bindTs, List.set_cons_zero, List.set_cons_succ, ixV, atI0, atI1, atI2, atI3, cmpV, cmpEq, cmpIs, fOp, fCmp, binV, augV, Bi.wp, Bi.val, truD, wipeR, slotsT, slotsTs, Int.cast_ofNat_Int, seqV, seqF, seqL, Option.map_some, Option.map_none, D.ref.injEq, D.int.injEq, D.bl.injEq, MO.lst.injEq, exists_and_left, exists_and_right, updM_same, updM_updM, viewR, viewD, viewDs, flatD, ixN0, ixN1, ixN2, ifB, ifNB, Bool.not_true, Bool.not_false, Bool.false_eq_true, Bool.true_eq_false, if_true, if_false, ite_true, ite_false, true_and, and_true, or_true, true_or, or_false, false_or, false_and, and_false, String.reduceEq, eq_self, decide_true, decide_false, exIf, ne_eq, not_false_eq_true, Nat.zero_le, b_law_words_6, lo.at']
    simp (maxSteps := 400000) only [vSs, vS, vE, vEs, vT, vTo, vEo, vI, setV, slV, seqL', keyD, startD, endsOf, List.map_cons, List.map_nil, List.length_cons, List.length_nil, List.replicate, List.cons_append, List.nil_append, Nat.reduceAdd, Nat.reduceSub, Nat.reduceLeDiff, List.getElem?_cons_zero, List.getElem?_cons_succ, Option.some.injEq, exists_eq_left', exists_eq_left, exists_eq', exists_eq, bindT, bindTs, List.set_cons_zero, List.set_cons_succ, ixV, atI0, atI1, atI2, atI3, cmpV, cmpEq, cmpIs, fOp, fCmp, binV, augV, Bi.wp, Bi.val, truD, wipeR, slotsT, slotsTs, Int.cast_ofNat_Int, seqV, seqF, seqL, Option.map_some, Option.map_none, D.ref.injEq, D.int.injEq, D.bl.injEq, MO.lst.injEq, exists_and_left, exists_and_right, updM_same, updM_updM, viewR, viewD, viewDs, flatD, ixN0, ixN1, ixN2, ifB, ifNB, Bool.not_true, Bool.not_false, Bool.false_eq_true, Bool.true_eq_false, if_true, if_false, ite_true, ite_false, true_and, and_true, or_true, true_or, or_false, false_or, false_and, and_false, String.reduceEq, eq_self, decide_true, decide_false, exIf, ne_eq, not_false_eq_true, Nat.zero_le, b_law_words_5]
    exact ⟨_, Sub.refl _, q ws _ hw (by omega) lo.frz⟩
end K85
namespace K85
open PySem PySem.Spec PyProof.Rows L2 Vp
/-! ### equal, while an exception is handled -/
def b_hint : Ss := .cons (.ret (.and (.biN .isinst (.cons (.var 0) (.cons (.cty "int") .nil))) (.not (.biN .isinst (.cons (.var 0) (.cons (.cty "bool") .nil)))))) .nil
def b_heq_1 : Ss := .cons (.ret (.cmp .Is (.var 0) .cnon)) .nil
def b_heq_2 : Ss := .cons (.ret (.and (.biN .isinst (.cons (.var 0) (.cons (.cty "bool") .nil))) (.cmp .Eq (.var 0) (.var 1)))) .nil
def b_heq_3 : Ss := .cons (.ret (.and (.callH 0 (.cons (.var 0) .nil)) (.cmp .Eq (.var 0) (.var 1)))) .nil
def b_heq_4 : Ss := .cons (.ret (.and (.biN .isinst (.cons (.var 0) (.cons (.cty "str") .nil))) (.cmp .Eq (.var 0) (.var 1)))) .nil
def b_heq_5 : Ss := .cons (.ret (.cbl false)) .nil
def b_heq_6 : Ss := .cons (.ret (.cbl false)) .nil
def b_heq_7 : Ss := .cons (.ret (.cbl false)) .nil
def b_heq_8 : Ss := .cons (.ret (.biN .all (.cons (.compH (.callH 1 (.cons (.ix (.var 0) (.var 2)) (.cons (.ix (.var 1) (.var 2)) .nil))) (.nm 2) (.biN .len (.cons (.var 1) .nil))) .nil))) .nil
def b_heq_9 : Ss := .cons (.ifs (.cmp .NotEq (.biN .len (.cons (.var 0) .nil)) (.biN .len (.cons (.var 1) .nil))) b_heq_7 .nil) b_heq_8
def b_heq_10 : Ss := .cons (.ifs (.and (.tr (.biN .isinst (.cons (.var 1) (.cons (.cty "list") .nil)))) (.not (.tr (.biN .isinst (.cons (.var 0) (.cons (.cty "list") .nil)))))) b_heq_6 .nil) b_heq_9
def b_heq_11 : Ss := .cons (.ifs (.and (.tr (.biN .isinst (.cons (.var 1) (.cons (.cty "tuple") .nil)))) (.not (.tr (.biN .isinst (.cons (.var 0) (.cons (.cty "tuple") .nil)))))) b_heq_5 .nil) b_heq_10
def b_heq_12 : Ss := .cons (.ifs (.tr (.biN .isinst (.cons (.var 1) (.cons (.cty "str") .nil)))) b_heq_4 .nil) b_heq_11
def b_heq_13 : Ss := .cons (.ifs (.tr (.biN .isinst (.cons (.var 1) (.cons (.cty "int") .nil)))) b_heq_3 .nil) b_heq_12
def b_heq_14 : Ss := .cons (.ifs (.tr (.biN .isinst (.cons (.var 1) (.cons (.cty "bool") .nil)))) b_heq_2 .nil) b_heq_13
def b_heq : Ss := .cons (.ifs (.cmp .Is (.var 1) .cnon) b_heq_1 .nil) b_heq_14
theorem w_hint (ds : List D) (M : Mo) (Q : QE) (X : XQ) (h : C_int ds M Q X) : vSs g0 b_hint (endsOf Q X) (startD 1 ds) M := by
  obtain ⟨i, rfl, q⟩ := h
  simp (maxSteps := 400000) only [vSs, vS, vE, vEs, vT, vTo, vEo, vI, setV, slV, seqL', keyD, startD, endsOf, List.map_cons, List.map_nil, List.length_cons, List.length_nil, List.replicate, List.cons_append, List.nil_append, Nat.reduceAdd, Nat.reduceSub, Nat.reduceLeDiff, List.getElem?_cons_zero, List.getElem?_cons_succ, Option.some.injEq, exists_eq_left', exists_eq_left, exists_eq', exists_eq, bindT, bindTs, List.set_cons_zero, List.set_cons_succ, ixV, atI0, atI1, atI2, atI3, cmpV, cmpEq, cmpIs, fOp, fCmp, binV, augV, Bi.wp, Bi.val, truD, wipeR, slotsT, slotsTs, Int.cast_ofNat_Int, seqV, seqF, seqL, Option.map_some, Option.map_none, D.ref.injEq, D.int.injEq, D.bl.injEq, MO.lst.injEq, exists_and_left, exists_and_right, updM_same, updM_updM, viewR, viewD, viewDs, flatD, ixN0, ixN1, ixN2, ifB, ifNB, Bool.not_true, Bool.not_false, Bool.false_eq_true, Bool.true_eq_false, if_true, if_false, ite_true, ite_false, true_and, and_true, or_true, true_or, or_false, false_or, false_and, and_false, String.reduceEq, eq_self, decide_true, decide_false, exIf, ne_eq, not_false_eq_true, Nat.zero_le, b_hint]
  exact ⟨_, rfl, true, rfl, by rw [if_pos rfl]; exact ⟨_, rfl, false, rfl, _, Sub.refl _, q⟩⟩
abbrev G_heq (C : Con) : Gam := { hfs := [F_int, ⟨"_law_equal", 2, C⟩] }
def H0 : Con := fun ds M Q _ => ∃ x, ds = [x, x] ∧ pureN 0 x ∧ Q (.bl true) M
def H1 : Con := fun ds M Q _ => ∃ xs, ds = [.lst xs, .lst xs] ∧ xs.length ≤ 1000 ∧ (∀ x ∈ xs, pureN 0 x) ∧ Q (.bl true) M
theorem w_h0 (ds : List D) (M : Mo) (Q : QE) (X : XQ) (h : H0 ds M Q X) : vSs (G_heq Fal) b_heq (endsOf Q X) (startD 3 ds) M := by
  obtain ⟨x, rfl, hp, q⟩ := h
  cases x with
  | str s =>
    simp (maxSteps := 400000) only [vSs, vS, vE, vEs, vT, vTo, vEo, vI, setV, slV, seqL', keyD, startD, endsOf, List.map_cons, List.map_nil, List.length_cons, List.length_nil, List.replicate, List.cons_append, List.nil_append, Nat.reduceAdd, Nat.reduceSub, Nat.reduceLeDiff, List.getElem?_cons_zero, List.getElem?_cons_succ, Option.some.injEq, exists_eq_left', exists_eq_left, exists_eq', exists_eq, bindT, bindTs, List.set_cons_zero, List.set_cons_succ, ixV, atI0, atI1, atI2, atI3, cmpV, cmpEq, cmpIs, fOp, fCmp, binV, augV, Bi.wp, Bi.val, truD, wipeR, slotsT, slotsTs, Int.cast_ofNat_Int, seqV, seqF, seqL, Option.map_some, Option.map_none, D.ref.injEq, D.int.injEq, D.bl.injEq, MO.lst.injEq, exists_and_left, exists_and_right, updM_same, updM_updM, viewR, viewD, viewDs, flatD, ixN0, ixN1, ixN2, ifB, ifNB, Bool.not_true, Bool.not_false, Bool.false_eq_true, Bool.true_eq_false, if_true, if_false, ite_true, ite_false, true_and, and_true, or_true, true_or, or_false, false_or, false_and, and_false, String.reduceEq, eq_self, decide_true, decide_false, exIf, ne_eq, not_false_eq_true, Nat.zero_le, b_heq]
    simp (maxSteps := 400000) only [vSs, vS, vE, vEs, vT, vTo, vEo, vI, setV, slV, seqL', keyD, startD, endsOf, List.map_cons, List.map_nil, List.length_cons, List.length_nil, List.replicate, List.cons_append, List.nil_append, Nat.reduceAdd, Nat.reduceSub, Nat.reduceLeDiff, List.getElem?_cons_zero, List.getElem?_cons_succ, Option.some.injEq, exists_eq_left', exists_eq_left, exists_eq', exists_eq, bindT, bindTs, List.set_cons_zero, List.set_cons_succ, ixV, atI0, atI1, atI2, atI3, cmpV, cmpEq, cmpIs, fOp, fCmp, binV, augV, Bi.wp, Bi.val, truD, wipeR, slotsT, slotsTs, Int.cast_ofNat_Int, seqV, seqF, seqL, Option.map_some, Option.map_none, D.ref.injEq, D.int.injEq, D.bl.injEq, MO.lst.injEq, exists_and_left, exists_and_right, updM_same, updM_updM, viewR, viewD, viewDs, flatD, ixN0, ixN1, ixN2, ifB, ifNB, Bool.not_true, Bool.not_false, Bool.false_eq_true, Bool.true_eq_false, if_true, if_false, ite_true, ite_false, true_and, and_true, or_true, true_or, or_false, false_or, false_and, and_false, String.reduceEq, eq_self, decide_true, decide_false, exIf, ne_eq, not_false_eq_true, Nat.zero_le, b_heq_14]
    refine ⟨_, rfl, false, rfl, ?_⟩
    rw [if_neg Bool.false_ne_true]
    simp (maxSteps := 400000) only [vSs, vS, vE, vEs, vT, vTo, vEo, vI, setV, slV, seqL', keyD, startD, endsOf, List.map_cons, List.map_nil, List.length_cons, List.length_nil, List.replicate, List.cons_append, List.nil_append, Nat.reduceAdd, Nat.reduceSub, Nat.reduceLeDiff, List.getElem?_cons_zero, List.getElem?_cons_succ, Option.some.injEq, exists_eq_left', exists_eq_left, exists_eq', exists_eq, bindT, bindTs, List.set_cons_zero, List.set_cons_succ, ixV, atI0, atI1, atI2, atI3, cmpV, cmpEq, cmpIs, fOp, fCmp, binV, augV, Bi.wp, Bi.val, truD, wipeR, slotsT, slotsTs, Int.cast_ofNat_Int, seqV, seqF, seqL, Option.map_some, Option.map_none, D.ref.injEq, D.int.injEq, D.bl.injEq, MO.lst.injEq, exists_and_left, exists_and_right, updM_same, updM_updM, viewR, viewD, viewDs, flatD, ixN0, ixN1, ixN2, ifB, ifNB, Bool.not_true, Bool.not_false, Bool.false_eq_true, Bool.true_eq_false, if_true, if_false, ite_true, ite_false, true_and, and_true, or_true, true_or, or_false, false_or, false_and, and_false, String.reduceEq, eq_self, decide_true, decide_false, exIf, ne_eq, not_false_eq_true, Nat.zero_le, b_heq_13]
    refine ⟨_, rfl, false, rfl, ?_⟩
    rw [if_neg Bool.false_ne_true]
    simp (maxSteps := 400000) only [vSs, vS, vE, vEs, vT, vTo, vEo, vI, setV, slV, seqL', keyD, startD, endsOf, List.map_cons, List.map_nil, List.length_cons, List.length_nil, List.replicate, List.cons_append, List.nil_append, Nat.reduceAdd, Nat.reduceSub, Nat.reduceLeDiff, List.getElem?_cons_zero, List.getElem?_cons_succ, Option.some.injEq, exists_eq_left', exists_eq_left, exists_eq', exists_eq, bindT, bindTs, List.set_cons_zero, List.set_cons_succ, ixV, atI0, atI1, atI2, atI3, cmpV, cmpEq, cmpIs, fOp, fCmp, binV, augV, Bi.wp, Bi.val, truD, wipeR, slotsT, slotsTs, Int.cast_ofNat_Int, seqV, seqF, seqL, Option.map_some, Option.map_none, D.ref.injEq, D.int.injEq, D.bl.injEq, MO.lst.injEq, exists_and_left, exists_and_right, updM_same, updM_updM, viewR, viewD, viewDs, flatD, ixN0, ixN1, ixN2, ifB, ifNB, Bool.not_true, Bool.not_false, Bool.false_eq_true, Bool.true_eq_false, if_true, if_false, ite_true, ite_false, true_and, and_true, or_true, true_or, or_false, false_or, false_and, and_false, String.reduceEq, eq_self, decide_true, decide_false, exIf, ne_eq, not_false_eq_true, Nat.zero_le, b_heq_12]
    refine ⟨_, rfl, true, rfl, ?_⟩
    rw [if_pos rfl]
    simp (maxSteps := 400000) only [vSs, vS, vE, vEs, vT, vTo, vEo, vI, setV, slV, seqL', keyD, startD, endsOf, List.map_cons, List.map_nil, List.length_cons, List.length_nil, List.replicate, List.cons_append, List.nil_append, Nat.reduceAdd, Nat.reduceSub, Nat.reduceLeDiff, List.getElem?_cons_zero, List.getElem?_cons_succ, Option.some.injEq, exists_eq_left', exists_eq_left, exists_eq', exists_eq, bindT, bindTs, List.set_cons_zero, List.set_cons_succ, ixV, atI0, atI1, atI2, atI3, cmpV, cmpEq, cmpIs, fOp, fCmp, binV, augV, Bi.wp, Bi.val, truD, wipeR, slotsT, slotsTs, Int.cast_ofNat_Int, seqV, seqF, seqL, Option.map_some, Option.map_none, D.ref.injEq, D.int.injEq, D.bl.injEq, MO.lst.injEq, exists_and_left, exists_and_right, updM_same, updM_updM, viewR, viewD, viewDs, flatD, ixN0, ixN1, ixN2, ifB, ifNB, Bool.not_true, Bool.not_false, Bool.false_eq_true, Bool.true_eq_false, if_true, if_false, ite_true, ite_false, true_and, and_true, or_true, true_or, or_false, false_or, false_and, and_false, String.reduceEq, eq_self, decide_true, decide_false, exIf, ne_eq, not_false_eq_true, Nat.zero_le, b_heq_4]
    refine ⟨_, rfl, true, rfl, ?_⟩
    rw [if_pos rfl]
    exact ⟨_, Sub.refl _, q⟩
  | int i =>
    simp (maxSteps := 400000) only [vSs, vS, vE, vEs, vT, vTo, vEo, vI, setV, slV, seqL', keyD, startD, endsOf, List.map_cons, List.map_nil, List.length_cons, List.length_nil, List.replicate, List.cons_append, List.nil_append, Nat.reduceAdd, Nat.reduceSub, Nat.reduceLeDiff, List.getElem?_cons_zero, List.getElem?_cons_succ, Option.some.injEq, exists_eq_left', exists_eq_left, exists_eq', exists_eq, bindT, bindTs, List.set_cons_zero, List.set_cons_succ, ixV, atI0, atI1, atI2, atI3, cmpV, cmpEq, cmpIs, fOp, fCmp, binV, augV, Bi.wp, Bi.val, truD, wipeR, slotsT, slotsTs, Int.cast_ofNat_Int, seqV, seqF, seqL, Option.map_some, Option.map_none, D.ref.injEq, D.int.injEq, D.bl.injEq, MO.lst.injEq, exists_and_left, exists_and_right, updM_same, updM_updM, viewR, viewD, viewDs, flatD, ixN0, ixN1, ixN2, ifB, ifNB, Bool.not_true, Bool.not_false, Bool.false_eq_true, Bool.true_eq_false, if_true, if_false, ite_true, ite_false, true_and, and_true, or_true, true_or, or_false, false_or, false_and, and_false, String.reduceEq, eq_self, decide_true, decide_false, exIf, ne_eq, not_false_eq_true, Nat.zero_le, b_heq]
    simp (maxSteps := 400000) only [vSs, vS, vE, vEs, vT, vTo, vEo, vI, setV, slV, seqL', keyD, startD, endsOf, List.map_cons, List.map_nil, List.length_cons, List.length_nil, List.replicate, List.cons_append, List.nil_append, Nat.reduceAdd, Nat.reduceSub, Nat.reduceLeDiff, List.getElem?_cons_zero, List.getElem?_cons_succ, Option.some.injEq, exists_eq_left', exists_eq_left, exists_eq', exists_eq, bindT, bindTs, List.set_cons_zero, List.set_cons_succ, ixV, atI0, atI1, atI2, atI3, cmpV, cmpEq, cmpIs, fOp, fCmp, binV, augV, Bi.wp, Bi.val, truD, wipeR, slotsT, slotsTs, Int.cast_ofNat_Int, seqV, seqF, seqL, Option.map_some, Option.map_none, D.ref.injEq, D.int.injEq, D.bl.injEq, MO.lst.injEq, exists_and_left, exists_and_right, updM_same, updM_updM, viewR, viewD, viewDs, flatD, ixN0, ixN1, ixN2, ifB, ifNB, Bool.not_true, Bool.not_false, Bool.false_eq_true, Bool.true_eq_false, if_true, if_false, ite_true, ite_false, true_and, and_true, or_true, true_or, or_false, false_or, false_and, and_false, String.reduceEq, eq_self, decide_true, decide_false, exIf, ne_eq, not_false_eq_true, Nat.zero_le, b_heq_14]
    refine ⟨_, rfl, false, rfl, ?_⟩
    rw [if_neg Bool.false_ne_true]
    simp (maxSteps := 400000) only [vSs, vS, vE, vEs, vT, vTo, vEo, vI, setV, slV, seqL', keyD, startD, endsOf, List.map_cons, List.map_nil, List.length_cons, List.length_nil, List.replicate, List.cons_append, List.nil_append, Nat.reduceAdd, Nat.reduceSub, Nat.reduceLeDiff, List.getElem?_cons_zero, List.getElem?_cons_succ, Option.some.injEq, exists_eq_left', exists_eq_left, exists_eq', exists_eq, bindT, bindTs, List.set_cons_zero, List.set_cons_succ, ixV, atI0, atI1, atI2, atI3, cmpV, cmpEq, cmpIs, fOp, fCmp, binV, augV, Bi.wp, Bi.val, truD, wipeR, slotsT, slotsTs, Int.cast_ofNat_Int, seqV, seqF, seqL, Option.map_some, Option.map_none, D.ref.injEq, D.int.injEq, D.bl.injEq, MO.lst.injEq, exists_and_left, exists_and_right, updM_same, updM_updM, viewR, viewD, viewDs, flatD, ixN0, ixN1, ixN2, ifB, ifNB, Bool.not_true, Bool.not_false, Bool.false_eq_true, Bool.true_eq_false, if_true, if_false, ite_true, ite_false, true_and, and_true, or_true, true_or, or_false, false_or, false_and, and_false, String.reduceEq, eq_self, decide_true, decide_false, exIf, ne_eq, not_false_eq_true, Nat.zero_le, b_heq_13]
    refine ⟨_, rfl, true, rfl, ?_⟩
    rw [if_pos rfl]
    simp (maxSteps := 400000) only [vSs, vS, vE, vEs, vT, vTo, vEo, vI, setV, slV, seqL', keyD, startD, endsOf, List.map_cons, List.map_nil, List.length_cons, List.length_nil, List.replicate, List.cons_append, List.nil_append, Nat.reduceAdd, Nat.reduceSub, Nat.reduceLeDiff, List.getElem?_cons_zero, List.getElem?_cons_succ, Option.some.injEq, exists_eq_left', exists_eq_left, exists_eq', exists_eq, bindT, bindTs, List.set_cons_zero, List.set_cons_succ, ixV, atI0, atI1, atI2, atI3, cmpV, cmpEq, cmpIs, fOp, fCmp, binV, augV, Bi.wp, Bi.val, truD, wipeR, slotsT, slotsTs, Int.cast_ofNat_Int, seqV, seqF, seqL, Option.map_some, Option.map_none, D.ref.injEq, D.int.injEq, D.bl.injEq, MO.lst.injEq, exists_and_left, exists_and_right, updM_same, updM_updM, viewR, viewD, viewDs, flatD, ixN0, ixN1, ixN2, ifB, ifNB, Bool.not_true, Bool.not_false, Bool.false_eq_true, Bool.true_eq_false, if_true, if_false, ite_true, ite_false, true_and, and_true, or_true, true_or, or_false, false_or, false_and, and_false, String.reduceEq, eq_self, decide_true, decide_false, exIf, ne_eq, not_false_eq_true, Nat.zero_le, b_heq_3]
    refine ⟨i, rfl, true, rfl, ?_⟩
    rw [if_pos rfl]
    exact ⟨_, Sub.refl _, q⟩
  | _ => exact hp.elim
theorem w_h1 (ds : List D) (M : Mo) (Q : QE) (X : XQ) (h : H1 ds M Q X) : vSs (G_heq H0) b_heq (endsOf Q X) (startD 3 ds) M := by
  obtain ⟨xs, rfl, hl, hp, q⟩ := h
  simp (maxSteps := 400000) only [vSs, vS, vE, vEs, vT, vTo, vEo, vI, setV, slV, seqL', keyD, startD, endsOf, List.map_cons, List.map_nil, List.length_cons, List.length_nil, List.replicate, List.cons_append, List.nil_append, Nat.reduceAdd, Nat.reduceSub, Nat.reduceLeDiff, List.getElem?_cons_zero, List.getElem?_cons_succ, Option.some.injEq, exists_eq_left', exists_eq_left, exists_eq', exists_eq, bindT, bindTs, List.set_cons_zero, List.set_cons_succ, ixV, atI0, atI1, atI2, atI3, cmpV, cmpEq, cmpIs, fOp, fCmp, binV, augV, Bi.wp, Bi.val, truD, wipeR, slotsT, slotsTs, Int.cast_ofNat_Int, seqV, seqF, seqL, Option.map_some, Option.map_none, D.ref.injEq, D.int.injEq, D.bl.injEq, MO.lst.injEq, exists_and_left, exists_and_right, updM_same, updM_updM, viewR, viewD, viewDs, flatD, ixN0, ixN1, ixN2, ifB, ifNB, Bool.not_true, Bool.not_false, Bool.false_eq_true, Bool.true_eq_false, if_true, if_false, ite_true, ite_false, true_and, and_true, or_true, true_or, or_false, false_or, false_and, and_false, String.reduceEq, eq_self, decide_true, decide_false, exIf, ne_eq, not_false_eq_true, Nat.zero_le, b_heq]
  simp (maxSteps := 400000) only [vSs, vS, vE, vEs, vT, vTo, vEo, vI, setV, slV, seqL', keyD, startD, endsOf, List.map_cons, List.map_nil, List.length_cons, List.length_nil, List.replicate, List.cons_append, List.nil_append, Nat.reduceAdd, Nat.reduceSub, Nat.reduceLeDiff, List.getElem?_cons_zero, List.getElem?_cons_succ, Option.some.injEq, exists_eq_left', exists_eq_left, exists_eq', exists_eq, bindT, bindTs, List.set_cons_zero, List.set_cons_succ, ixV, atI0, atI1, atI2, atI3, cmpV, cmpEq, cmpIs, fOp, fCmp, binV, augV, Bi.wp, Bi.val, truD, wipeR, slotsT, slotsTs, Int.cast_ofNat_Int, seqV, seqF, seqL, Option.map_some, Option.map_none, D.ref.injEq, D.int.injEq, D.bl.injEq, MO.lst.injEq, exists_and_left, exists_and_right, updM_same, updM_updM, viewR, viewD, viewDs, flatD, ixN0, ixN1, ixN2, ifB, ifNB, Bool.not_true, Bool.not_false, Bool.false_eq_true, Bool.true_eq_false, if_true, if_false, ite_true, ite_false, true_and, and_true, or_true, true_or, or_false, false_or, false_and, and_false, String.reduceEq, eq_self, decide_true, decide_false, exIf, ne_eq, not_false_eq_true, Nat.zero_le, b_heq_14]
  refine ⟨_, rfl, false, rfl, ?_⟩
  rw [if_neg Bool.false_ne_true]
  simp (maxSteps := 400000) only [vSs, vS, vE, vEs, vT, vTo, vEo, vI, setV, slV, seqL', keyD, startD, endsOf, List.map_cons, List.map_nil, List.length_cons, List.length_nil, List.replicate, List.cons_append, List.nil_append, Nat.reduceAdd, Nat.reduceSub, Nat.reduceLeDiff, List.getElem?_cons_zero, List.getElem?_cons_succ, Option.some.injEq, exists_eq_left', exists_eq_left, exists_eq', exists_eq, bindT, bindTs, List.set_cons_zero, List.set_cons_succ, ixV, atI0, atI1, atI2, atI3, cmpV, cmpEq, cmpIs, fOp, fCmp, binV, augV, Bi.wp, Bi.val, truD, wipeR, slotsT, slotsTs, Int.cast_ofNat_Int, seqV, seqF, seqL, Option.map_some, Option.map_none, D.ref.injEq, D.int.injEq, D.bl.injEq, MO.lst.injEq, exists_and_left, exists_and_right, updM_same, updM_updM, viewR, viewD, viewDs, flatD, ixN0, ixN1, ixN2, ifB, ifNB, Bool.not_true, Bool.not_false, Bool.false_eq_true, Bool.true_eq_false, if_true, if_false, ite_true, ite_false, true_and, and_true, or_true, true_or, or_false, false_or, false_and, and_false, String.reduceEq, eq_self, decide_true, decide_false, exIf, ne_eq, not_false_eq_true, Nat.zero_le, b_heq_13]
  refine ⟨_, rfl, false, rfl, ?_⟩
  rw [if_neg Bool.false_ne_true]
  simp (maxSteps := 400000) only [vSs, vS, vE, vEs, vT, vTo, vEo, vI, setV, slV, seqL', keyD, startD, endsOf, List.map_cons, List.map_nil, List.length_cons, List.length_nil, List.replicate, List.cons_append, List.nil_append, Nat.reduceAdd, Nat.reduceSub, Nat.reduceLeDiff, List.getElem?_cons_zero, List.getElem?_cons_succ, Option.some.injEq, exists_eq_left', exists_eq_left, exists_eq', exists_eq, bindT, bindTs, List.set_cons_zero, List.set_cons_succ, ixV, atI0, atI1, atI2, atI3, cmpV, cmpEq, cmpIs, fOp, fCmp, binV, augV, Bi.wp, Bi.val, truD, wipeR, slotsT, slotsTs, Int.cast_ofNat_Int, seqV, seqF, seqL, Option.map_some, Option.map_none, D.ref.injEq, D.int.injEq, D.bl.injEq, MO.lst.injEq, exists_and_left, exists_and_right, updM_same, updM_updM, viewR, viewD, viewDs, flatD, ixN0, ixN1, ixN2, ifB, ifNB, Bool.not_true, Bool.not_false, Bool.false_eq_true, Bool.true_eq_false, if_true, if_false, ite_true, ite_false, true_and, and_true, or_true, true_or, or_false, false_or, false_and, and_false, String.reduceEq, eq_self, decide_true, decide_false, exIf, ne_eq, not_false_eq_true, Nat.zero_le, b_heq_12]
  refine ⟨_, rfl, false, rfl, ?_⟩
  rw [if_neg Bool.false_ne_true]
  simp (maxSteps := 400000) only [vSs, vS, vE, vEs, vT, vTo, vEo, vI, setV, slV, seqL', keyD, startD, endsOf, List.map_cons, List.map_nil, List.length_cons, List.length_nil, List.replicate, List.cons_append, List.nil_append, Nat.reduceAdd, Nat.reduceSub, Nat.reduceLeDiff, List.getElem?_cons_zero, List.getElem?_cons_succ, Option.some.injEq, exists_eq_left', exists_eq_left, exists_eq', exists_eq, bindT, bindTs, List.set_cons_zero, List.set_cons_succ, ixV, atI0, atI1, atI2, atI3, cmpV, cmpEq, cmpIs, fOp, fCmp, binV, augV, Bi.wp, Bi.val, truD, wipeR, slotsT, slotsTs, Int.cast_ofNat_Int, seqV, seqF, seqL, Option.map_some, Option.map_none, D.ref.injEq, D.int.injEq, D.bl.injEq, MO.lst.injEq, exists_and_left, exists_and_right, updM_same, updM_updM, viewR, viewD, viewDs, flatD, ixN0, ixN1, ixN2, ifB, ifNB, Bool.not_true, Bool.not_false, Bool.false_eq_true, Bool.true_eq_false, if_true, if_false, ite_true, ite_false, true_and, and_true, or_true, true_or, or_false, false_or, false_and, and_false, String.reduceEq, eq_self, decide_true, decide_false, exIf, ne_eq, not_false_eq_true, Nat.zero_le, b_heq_11]
  refine ⟨_, rfl, false, rfl, ?_⟩
  rw [if_neg Bool.false_ne_true]
  simp (maxSteps := 400000) only [vSs, vS, vE, vEs, vT, vTo, vEo, vI, setV, slV, seqL', keyD, startD, endsOf, List.map_cons, List.map_nil, List.length_cons, List.length_nil, List.replicate, List.cons_append, List.nil_append, Nat.reduceAdd, Nat.reduceSub, Nat.reduceLeDiff, List.getElem?_cons_zero, List.getElem?_cons_succ, Option.some.injEq, exists_eq_left', exists_eq_left, exists_eq', exists_eq, bindT, bindTs, List.set_cons_zero, List.set_cons_succ, ixV, atI0, atI1, atI2, atI3, cmpV, cmpEq, cmpIs, fOp, fCmp, binV, augV, Bi.wp, Bi.val, truD, wipeR, slotsT, slotsTs, Int.cast_ofNat_Int, seqV, seqF, seqL, Option.map_some, Option.map_none, D.ref.injEq, D.int.injEq, D.bl.injEq, MO.lst.injEq, exists_and_left, exists_and_right, updM_same, updM_updM, viewR, viewD, viewDs, flatD, ixN0, ixN1, ixN2, ifB, ifNB, Bool.not_true, Bool.not_false, Bool.false_eq_true, Bool.true_eq_false, if_true, if_false, ite_true, ite_false, true_and, and_true, or_true, true_or, or_false, false_or, false_and, and_false, String.reduceEq, eq_self, decide_true, decide_false, exIf, ne_eq, not_false_eq_true, Nat.zero_le, b_heq_10]
  refine ⟨_, rfl, true, rfl, ?_⟩
  rw [if_pos rfl]
  refine ⟨_, rfl, true, rfl, ?_⟩
  rw [if_pos rfl]
  simp (maxSteps := 400000) only [vSs, vS, vE, vEs, vT, vTo, vEo, vI, setV, slV, seqL', keyD, startD, endsOf, List.map_cons, List.map_nil, List.length_cons, List.length_nil, List.replicate, List.cons_append, List.nil_append, Nat.reduceAdd, Nat.reduceSub, Nat.reduceLeDiff, List.getElem?_cons_zero, List.getElem?_cons_succ, Option.some.injEq, exists_eq_left', exists_eq_left, exists_eq', exists_eq, bindT, bindTs, List.set_cons_zero, List.set_cons_succ, ixV, atI0, atI1, atI2, atI3, cmpV, cmpEq, cmpIs, fOp, fCmp, binV, augV, Bi.wp, Bi.val, truD, wipeR, slotsT, slotsTs, Int.cast_ofNat_Int, seqV, seqF, seqL, Option.map_some, Option.map_none, D.ref.injEq, D.int.injEq, D.bl.injEq, MO.lst.injEq, exists_and_left, exists_and_right, updM_same, updM_updM, viewR, viewD, viewDs, flatD, ixN0, ixN1, ixN2, ifB, ifNB, Bool.not_true, Bool.not_false, Bool.false_eq_true, Bool.true_eq_false, if_true, if_false, ite_true, ite_false, true_and, and_true, or_true, true_or, or_false, false_or, false_and, and_false, String.reduceEq, eq_self, decide_true, decide_false, exIf, ne_eq, not_false_eq_true, Nat.zero_le, b_heq_9]
  simp (maxSteps := 400000) only [vSs, vS, vE, vEs, vT, vTo, vEo, vI, setV, slV, seqL', keyD, startD, endsOf, List.map_cons, List.map_nil, List.length_cons, List.length_nil, List.replicate, List.cons_append, List.nil_append, Nat.reduceAdd, Nat.reduceSub, Nat.reduceLeDiff, List.getElem?_cons_zero, List.getElem?_cons_succ, Option.some.injEq, exists_eq_left', exists_eq_left, exists_eq', exists_eq, bindT, bindTs, List.set_cons_zero, List.set_cons_succ, ixV, atI0, atI1, atI2, atI3, cmpV, cmpEq, cmpIs, fOp, fCmp, binV, augV, Bi.wp, Bi.val, truD, wipeR, slotsT, slotsTs, Int.cast_ofNat_Int, seqV, seqF, seqL, Option.map_some, Option.map_none, D.ref.injEq, D.int.injEq, D.bl.injEq, MO.lst.injEq, exists_and_left, exists_and_right, updM_same, updM_updM, viewR, viewD, viewDs, flatD, ixN0, ixN1, ixN2, ifB, ifNB, Bool.not_true, Bool.not_false, Bool.false_eq_true, Bool.true_eq_false, if_true, if_false, ite_true, ite_false, true_and, and_true, or_true, true_or, or_false, false_or, false_and, and_false, String.reduceEq, eq_self, decide_true, decide_false, exIf, ne_eq, not_false_eq_true, Nat.zero_le, b_heq_8]
  refine ⟨by omega, by omega, by simp; omega, ?_⟩
  refine vComp_range (fun i => .int (0 + (i : Int))) (fun i acc M1 => M1 = M ∧ acc = List.replicate i (.bl true)) (fun i acc M1 hb hI => ?_) (fun acc M1 hI => ?_) ⟨rfl, rfl⟩
  · obtain ⟨rfl, rfl⟩ := hI
    have hin : i < xs.length := by simpa using hb
    have hat : atI xs (0 + (i : Int)) = some xs[i] := by
      rw [Int.zero_add]
      exact atI_nat (List.getElem?_eq_getElem hin)
    refine ⟨_, rfl, fun Nx hNx => ?_⟩
    simp (maxSteps := 400000) only [vSs, vS, vE, vEs, vT, vTo, vEo, vI, setV, slV, seqL', keyD, startD, endsOf, List.map_cons, List.map_nil, List.length_cons, List.length_nil, List.replicate, List.cons_append, List.nil_append, Nat.reduceAdd, Nat.reduceSub, Nat.reduceLeDiff, List.getElem?_cons_zero, List.getElem?_cons_succ, Option.some.injEq, exists_eq_left', exists_eq_left, exists_eq', exists_eq, bindT, bindTs, List.set_cons_zero, List.set_cons_succ, ixV, atI0, atI1, atI2, atI3, cmpV, cmpEq, cmpIs, fOp, fCmp, binV, augV, Bi.wp, Bi.val, truD, wipeR, slotsT, slotsTs, Int.cast_ofNat_Int, seqV, seqF, seqL, Option.map_some, Option.map_none, D.ref.injEq, D.int.injEq, D.bl.injEq, MO.lst.injEq, exists_and_left, exists_and_right, updM_same, updM_updM, viewR, viewD, viewDs, flatD, ixN0, ixN1, ixN2, ifB, ifNB, Bool.not_true, Bool.not_false, Bool.false_eq_true, Bool.true_eq_false, if_true, if_false, ite_true, ite_false, true_and, and_true, or_true, true_or, or_false, false_or, false_and, and_false, String.reduceEq, eq_self, decide_true, decide_false, exIf, ne_eq, not_false_eq_true, Nat.zero_le]
    refine ⟨_, hat, _, hat, xs[i], rfl, hp _ (List.getElem_mem hin), hNx _ _ ⟨rfl, ?_⟩⟩
    rw [List.replicate_succ']
  · obtain ⟨rfl, rfl⟩ := hI
    refine ⟨.bl true, ?_, _, Sub.refl _, q⟩
    show (allBl (List.replicate _ (D.bl true))).map (fun bs => D.bl (bs.all id)) = _
    rw [allBl_rep]
    simp
/-! ### refused -/
def b_rf2 : Ss := .cons (.ret (.callH 0 (.cons (.lst false (.cons (.xfld (.var 2) "line") (.cons (.xfld (.var 2) "column") (.cons (.xfld (.var 2) "words") .nil)))) (.cons (.lst false (.cons (.ix (.var 1) (.cint 0)) (.cons (.ix (.var 1) (.cint 1)) (.cons (.cstr "no such character") .nil)))) .nil)))) .nil
def b_rf : Ss := .cons (.tryAs b_law_refused_1 0 2 b_rf2) b_law_refused_3
def C_refused : Con := fun ds M Q _ => ∃ (x : Str) (l c : Int) (its : List IT), ds = [.str x, .tup [.int l, .int c]] ∧ x.length ≤ 1000000 ∧ Sc (tx x) 1 1 its (some (l, c)) ∧ smallP (l, c) ∧ ∀ M', Q (.bl true) M'
abbrev F_scan (te : Addr) : Fn := ⟨"scan", 1, C_scan te⟩
abbrev G_rf (te : Addr) : Gam := { fns := [F_scan te], hfs := [⟨"_law_equal", 2, H1⟩], xcs := [X_te te], exm := [((.ref te, te), true)], xfl := [(te, "line"), (te, "column"), (te, "words")] }
theorem w_rf (te : Addr) (ds : List D) (M : Mo) (Q : QE) (X : XQ) (h : C_refused ds M Q X) : vSs (G_rf te) b_rf (endsOf Q X) (startD 3 ds) M := by
  obtain ⟨x, l, c, its, rfl, hx, hs, hq, q⟩ := h
  simp (maxSteps := 400000) only [vSs, vS, vE, vEs, vT, vTo, vEo, vI, setV, slV, seqL', keyD, startD, endsOf, List.map_cons, List.map_nil, List.length_cons, List.length_nil, List.replicate, List.cons_append, List.nil_append, Nat.reduceAdd, Nat.reduceSub, Nat.reduceLeDiff, List.getElem?_cons_zero, List.getElem?_cons_succ, Option.some.injEq, exists_eq_left', exists_eq_left, exists_eq', exists_eq, bindT, bindTs, List.set_cons_zero, List.set_cons_succ, ixV, atI0, atI1, atI2, atI3, cmpV, cmpEq, cmpIs, fOp, fCmp, binV, augV, Bi.wp, Bi.val, truD, wipeR, slotsT, slotsTs, Int.cast_ofNat_Int, seqV, seqF, seqL, Option.map_some, Option.map_none, D.ref.injEq, D.int.injEq, D.bl.injEq, MO.lst.injEq, exists_and_left, exists_and_right, updM_same, updM_updM, viewR, viewD, viewDs, flatD, ixN0, ixN1, ixN2, ifB, ifNB, Bool.not_true, Bool.not_false, Bool.false_eq_true, Bool.true_eq_false, if_true, if_false, ite_true, ite_false, true_and, and_true, or_true, true_or, or_false, false_or, false_and, and_false, String.reduceEq, eq_self, decide_true, decide_false, exIf, ne_eq, not_false_eq_true, Nat.zero_le, b_rf]
  simp (maxSteps := 400000) only [vSs, vS, vE, vEs, vT, vTo, vEo, vI, setV, slV, seqL', keyD, startD, endsOf, List.map_cons, List.map_nil, List.length_cons, List.length_nil, List.replicate, List.cons_append, List.nil_append, Nat.reduceAdd, Nat.reduceSub, Nat.reduceLeDiff, List.getElem?_cons_zero, List.getElem?_cons_succ, Option.some.injEq, exists_eq_left', exists_eq_left, exists_eq', exists_eq, bindT, bindTs, List.set_cons_zero, List.set_cons_succ, ixV, atI0, atI1, atI2, atI3, cmpV, cmpEq, cmpIs, fOp, fCmp, binV, augV, Bi.wp, Bi.val, truD, wipeR, slotsT, slotsTs, Int.cast_ofNat_Int, seqV, seqF, seqL, Option.map_some, Option.map_none, D.ref.injEq, D.int.injEq, D.bl.injEq, MO.lst.injEq, exists_and_left, exists_and_right, updM_same, updM_updM, viewR, viewD, viewDs, flatD, ixN0, ixN1, ixN2, ifB, ifNB, Bool.not_true, Bool.not_false, Bool.false_eq_true, Bool.true_eq_false, if_true, if_false, ite_true, ite_false, true_and, and_true, or_true, true_or, or_false, false_or, false_and, and_false, String.reduceEq, eq_self, decide_true, decide_false, exIf, ne_eq, not_false_eq_true, Nat.zero_le, b_law_refused_1]
  refine ⟨x, its, some (l, c), rfl, hx, hs, nofun, fun z hz => ?_⟩
  cases hz
  refine ⟨hq, fun M1 s => ⟨true, by simp, ?_⟩⟩
  rw [if_pos rfl]
  intro a dd fr
  simp (maxSteps := 400000) only [vSs, vS, vE, vEs, vT, vTo, vEo, vI, setV, slV, seqL', keyD, startD, endsOf, List.map_cons, List.map_nil, List.length_cons, List.length_nil, List.replicate, List.cons_append, List.nil_append, Nat.reduceAdd, Nat.reduceSub, Nat.reduceLeDiff, List.getElem?_cons_zero, List.getElem?_cons_succ, Option.some.injEq, exists_eq_left', exists_eq_left, exists_eq', exists_eq, bindT, bindTs, List.set_cons_zero, List.set_cons_succ, ixV, atI0, atI1, atI2, atI3, cmpV, cmpEq, cmpIs, fOp, fCmp, binV, augV, Bi.wp, Bi.val, truD, wipeR, slotsT, slotsTs, Int.cast_ofNat_Int, seqV, seqF, seqL, Option.map_some, Option.map_none, D.ref.injEq, D.int.injEq, D.bl.injEq, MO.lst.injEq, exists_and_left, exists_and_right, updM_same, updM_updM, viewR, viewD, viewDs, flatD, ixN0, ixN1, ixN2, ifB, ifNB, Bool.not_true, Bool.not_false, Bool.false_eq_true, Bool.true_eq_false, if_true, if_false, ite_true, ite_false, true_and, and_true, or_true, true_or, or_false, false_or, false_and, and_false, String.reduceEq, eq_self, decide_true, decide_false, exIf, ne_eq, not_false_eq_true, Nat.zero_le, b_rf2]
  unfold teF
  refine ⟨a, te, dd, rfl, rfl, _, updM_same, .int l, rfl, by simp, a, te, dd, rfl, rfl, _, updM_same, .int c, rfl, by simp, a, te, dd, rfl, rfl, _, updM_same, .str "no such character", rfl, by simp, ?_⟩
  refine ⟨_, rfl, by simp, fun y hy => ?_, _, Sub.refl _, q _⟩
  simp only [List.mem_cons, List.not_mem_nil, or_false] at hy
  rcases hy with rfl | rfl | rfl <;> trivial
end K85
namespace K85
open PySem PySem.Spec PyProof.Rows L2 Vp
def topS (i : Nat) : Stmt := PySem.Challenge.pw_sureplan_k85_tokens_and_places.main.body.getD i (.Pass ⟨0, 0, 0, 0⟩)
def topM (i j : Nat) : Stmt := match topS i with | .ClassDef _ _ _ body _ _ _ _ _ _ _ => body.getD j (.Pass ⟨0, 0, 0, 0⟩) | _ => .Pass ⟨0, 0, 0, 0⟩
abbrev st_comment_end : Stmt := topS 5
theorem sc_comment_end : FnScope N_comment_end ["text", "at"] (defScope st_comment_end) := ⟨rfl, rfl, rfl, by decide +kernel, rfl, by decide +kernel, by decide +kernel⟩
abbrev st_word_end : Stmt := topS 6
theorem sc_word_end : FnScope N_word_end ["text", "at"] (defScope st_word_end) := ⟨rfl, rfl, rfl, by decide +kernel, rfl, by decide +kernel, by decide +kernel⟩
abbrev st_scan : Stmt := topS 7
theorem sc_scan : FnScope N_scan ["text"] (defScope st_scan) := ⟨rfl, rfl, rfl, by decide +kernel, rfl, by decide +kernel, by decide +kernel⟩
abbrev st_end_of : Stmt := topS 8
theorem sc_end_of : FnScope N_end_of ["text"] (defScope st_end_of) := ⟨rfl, rfl, rfl, by decide +kernel, rfl, by decide +kernel, by decide +kernel⟩
abbrev st_law_stream : Stmt := topS 10
theorem sc_law_stream : FnScope N_law_stream ["script"] (defScope st_law_stream) := ⟨rfl, rfl, rfl, by decide +kernel, rfl, by decide +kernel, by decide +kernel⟩
abbrev st_law_next : Stmt := topS 11
theorem sc_law_next : FnScope N_law_next ["stream", "many"] (defScope st_law_next) := ⟨rfl, rfl, rfl, by decide +kernel, rfl, by decide +kernel, by decide +kernel⟩
abbrev st_law_is_integer : Stmt := topS 12
theorem sc_law_is_integer : FnScope N_law_is_integer ["actual"] (defScope st_law_is_integer) := ⟨rfl, rfl, rfl, by decide +kernel, rfl, by decide +kernel, by decide +kernel⟩
abbrev st_law_equal : Stmt := topS 13
theorem sc_law_equal : FnScope N_law_equal ["actual", "due"] (defScope st_law_equal) := ⟨rfl, rfl, rfl, by decide +kernel, rfl, by decide +kernel, by decide +kernel⟩
abbrev st_law_gap : Stmt := topS 14
theorem sc_law_gap : FnScope N_law_gap ["stream", "tight"] (defScope st_law_gap) := ⟨rfl, rfl, rfl, by decide +kernel, rfl, by decide +kernel, by decide +kernel⟩
abbrev st_law_laid : Stmt := topS 15
theorem sc_law_laid : FnScope N_law_laid ["stream", "words"] (defScope st_law_laid) := ⟨rfl, rfl, rfl, by decide +kernel, rfl, by decide +kernel, by decide +kernel⟩
abbrev st_law_words : Stmt := topS 16
theorem sc_law_words : FnScope N_law_words ["stream"] (defScope st_law_words) := ⟨rfl, rfl, rfl, by decide +kernel, rfl, by decide +kernel, by decide +kernel⟩
abbrev st_law_refused : Stmt := topS 17
theorem sc_law_refused : FnScope N_law_refused ["text", "due"] (defScope st_law_refused) := ⟨rfl, rfl, rfl, by decide +kernel, rfl, by decide +kernel, by decide +kernel⟩
abbrev st_law : Stmt := topS 18
theorem sc_law : FnScope N_law ["script"] (defScope st_law) := ⟨rfl, rfl, rfl, by decide +kernel, rfl, by decide +kernel, by decide +kernel⟩
abbrev st_TextError___init__ : Stmt := topM 2 0
theorem sc_TextError___init__ : FnScope N_TextError___init__ ["self", "line", "column", "words"] (defScope st_TextError___init__) := ⟨rfl, rfl, rfl, by decide +kernel, rfl, by decide +kernel, by decide +kernel⟩
theorem ck_comment_end : isSs (u_comment_end (scOf N_comment_end (defScope st_comment_end) f_comment_end z_comment_end [] [] [] false [] [] [])) b_comment_end (defBody st_comment_end) = true := by decide +kernel
theorem ck_word_end : isSs (u_word_end (scOf N_word_end (defScope st_word_end) f_word_end z_word_end [] [] [] false [] [] [])) b_word_end (defBody st_word_end) = true := by decide +kernel
theorem ck_scan : isSs (u_scan (scOf N_scan (defScope st_scan) f_scan z_scan [] [] [] false [] [] [])) b_scan (defBody st_scan) = true := by decide +kernel
theorem ck_end_of : isSs (u_end_of (scOf N_end_of (defScope st_end_of) f_end_of z_end_of [] [] [] false [] [] [])) b_end_of (defBody st_end_of) = true := by decide +kernel
theorem ck_law_stream : isSs (u_law_stream (scOf N_law_stream (defScope st_law_stream) f_law_stream z_law_stream [] [] [] false [] [] [])) b_law_stream (defBody st_law_stream) = true := by decide +kernel
theorem ck_law_next : isSs (u_law_next (scOf N_law_next (defScope st_law_next) f_law_next z_law_next [] [] [] false [] [] [])) b_law_next (defBody st_law_next) = true := by decide +kernel
theorem ck_law_is_integer : isSs (u_law_is_integer (scOf N_law_is_integer (defScope st_law_is_integer) f_law_is_integer z_law_is_integer [] [] [] false [] [] [])) b_law_is_integer (defBody st_law_is_integer) = true := by decide +kernel
theorem ck_law_equal : isSs (u_law_equal (scOf N_law_equal (defScope st_law_equal) f_law_equal z_law_equal [] [] [] false [] [] [])) b_law_equal (defBody st_law_equal) = true := by decide +kernel
theorem ck_law_gap : isSs (u_law_gap (scOf N_law_gap (defScope st_law_gap) f_law_gap z_law_gap [] [] [] false [] [] [])) b_law_gap (defBody st_law_gap) = true := by decide +kernel
theorem ck_law_laid : isSs (u_law_laid (scOf N_law_laid (defScope st_law_laid) f_law_laid z_law_laid [] [] [] false [] [] [])) b_law_laid (defBody st_law_laid) = true := by decide +kernel
theorem ck_law_words : isSs (u_law_words (scOf N_law_words (defScope st_law_words) f_law_words z_law_words [] [] [] false [] [] [])) b_law_words (defBody st_law_words) = true := by decide +kernel
theorem ck_law : isSs (u_law (scOf N_law (defScope st_law) f_law z_law [] [] [] false [] [] [])) b_law (defBody st_law) = true := by decide +kernel
theorem ck_TextError___init__ : isSs (u_TextError___init__ (scOf N_TextError___init__ (defScope st_TextError___init__) f_TextError___init__ z_TextError___init__ [] [] [] false [] [] [])) b_TextError___init__ (defBody st_TextError___init__) = true := by decide +kernel
theorem ck_hint : isSs { scOf N_law_is_integer (defScope st_law_is_integer) [] z_law_is_integer [] [] [] false [] [] [] with calm := false, hot := true } b_hint (defBody st_law_is_integer) = true := by decide +kernel
theorem ck_heq : isSs { scOf N_law_equal (defScope st_law_equal) [] z_law_equal [] [] [] false [] [] [] with calm := false, hot := true, hfs := ["_law_is_integer", "_law_equal"] } b_heq (defBody st_law_equal) = true := by decide +kernel
theorem ck_rf : isSs { scOf N_law_refused (defScope st_law_refused) ["scan"] z_law_refused [] [] [] false [] ["TextError"] [] with hfs := ["_law_equal"] } b_rf (defBody st_law_refused) = true := by decide +kernel
end K85
namespace K85
open PySem PySem.Spec PyProof.Rows L2 Vp
/-! ### the law -/
def C_law : Con := fun ds M Q _ => ∃ ns : List Int, ds = [.lst (ns.map .int)] ∧ ∀ M', Q (.bl true) M'
abbrev F_words : Fn := ⟨"_law_words", 1, C_words⟩
abbrev F_laid : Fn := ⟨"_law_laid", 2, C_laid⟩
abbrev F_eqT : Fn := ⟨"_law_equal", 2, C_eqT⟩
abbrev F_end : Fn := ⟨"end_of", 1, C_end⟩
abbrev F_rf : Fn := ⟨"_law_refused", 2, C_refused⟩
abbrev G_law (te : Addr) : Gam := { fns := [F_stream, F_words, F_laid, F_eqT, F_scan te, F_end, F_next, F_rf] }
theorem cut_lo {ws : List Str} {k : Nat} (h : k ≤ ws.length) : Vp.cutD (ws.map D.str) none (some (k : Nat)) = (ws.take k).map D.str := by
  unfold Vp.cutD
  rw [HT.sIx_none, HT.sIx_nat, List.length_map, Nat.min_eq_left h, List.drop_zero, Nat.sub_zero, List.map_take]
theorem cutS_lo {x : Str} {k : Nat} (h : k ≤ x.length) : tx (cutS x none (some (k : Nat))) = (tx x).take k := by
  unfold cutS
  rw [HT.sIx_none, HT.sIx_nat, Nat.min_eq_left h, List.drop_zero, Nat.sub_zero]
theorem cutS_hi {x : Str} {k : Nat} (h : k ≤ x.length) : tx (cutS x (some (k : Nat)) none) = (tx x).drop k := by
  unfold cutS
  rw [HT.sIx_none, HT.sIx_nat, Nat.min_eq_left h]
  show List.take (x.length - k) (List.drop k x.cps.toList) = _
  exact List.take_of_length_le (by rw [List.length_drop]; exact Nat.le_of_eq (by rw [tx_len x]))
abbrev STR : Str := "!\"#$&',./:\x40[]^{|}~\\"
theorem str_bad : ∀ c ∈ tx STR, c ≠ 10 ∧ c ≠ 59 ∧ c ≠ 40 ∧ c ≠ 41 ∧ c ≠ 32 ∧ c ≠ 9 ∧ isW c = false := by decide +kernel
theorem str_len : (tx STR).length = 19 ∧ STR.length = 19 := by decide +kernel
/-- a bad sign in a word -/
theorem bad_sc {t rest : List Nat} {m : Bool} {toks : List IT} (p : Pre t m toks) {w : Str} (hw : WdOk w) (hm : m = true → isPar w = true) {j s : Nat} (hj : j < (tx w).length) (hs : isBad s) : ∃ its, Sc (t ++ ((tx w).take j ++ s :: rest)) 1 1 its (some ((lcF (1, 1) t).1, (lcF (1, 1) t).2 + (j : Nat))) := by
  cases j with
  | zero =>
    refine ⟨toks ++ [], ?_⟩
    have := p (s :: rest) [] _ (fun _ y r' e => by rw [← (List.cons.inj e).1]; exact hs.2.2.2.2.2.2) (.bad _ _ hs)
    simpa using this
  | succ j =>
    rcases wds_sp w hw with ⟨h1, h2⟩ | ⟨h1, h2, h3, h4⟩
    · rcases h2 with h2 | h2 <;> (rw [h2] at hj; simp at hj)
    · have hm0 : m = false := by
        cases m with
        | false => rfl
        | true => rw [hm rfl] at h1; cases h1
      cases ew : tx w with
      | nil => exact absurd ew h3
      | cons y r =>
        rw [ew] at hj
        have hjr : j ≤ r.length := by simp at hj; omega
        have hl : (y :: r.take j).length = j + 1 := by simp; omega
        refine ⟨toks ++ [(⟨(y :: r.take j).toArray⟩, (lcF (1, 1) t).1, (lcF (1, 1) t).2)], ?_⟩
        refine p _ _ _ (fun h => by rw [hm0] at h; cases h) ?_
        rw [List.take_succ_cons, List.cons_append]
        refine .word (fun z hz => List.all_eq_true.mp h4 z ?_) (fun z r' e => by rw [← (List.cons.inj e).1]; exact hs.2.2.2.2.2.2) ?_
        · rw [ew]
          rcases List.mem_cons.mp hz with rfl | hz
          · exact List.mem_cons_self ..
          · exact List.mem_cons_of_mem _ (List.mem_of_mem_take hz)
        · rw [hl]
          exact .bad _ _ hs
theorem jn_le : ∀ (L : List (List Nat)) (a : List Nat), a ∈ L → a.length ≤ (jnL L).length
  | [a], b, h => by rw [List.mem_singleton.mp h]; exact Nat.le_refl _
  | a :: c :: L, b, h => by
    have e : jnL (a :: c :: L) = a ++ 10 :: jnL (c :: L) := rfl
    rw [e, List.length_append, List.length_cons]
    rcases List.mem_cons.mp h with rfl | h
    · omega
    · have := jn_le (c :: L) b h
      omega
theorem allInt_map {α : Type} (f : α → Int) : ∀ l : List α, allInt (l.map fun x => D.int (f x)) = some (l.map f)
  | [] => rfl
  | x :: r => by
    show (allInt (r.map fun x => D.int (f x))).map (f x :: ·) = _
    rw [allInt_map f r]; rfl
theorem it_pure (t : IT) : pureN 1 (itD t) := pureN_tup (by simp) (by
  intro d hd
  simp only [List.mem_cons, List.not_mem_nil, or_false] at hd
  rcases hd with rfl | rfl | rfl <;> trivial)
theorem zip_at {ws : List Str} {ps : List PL} (hl : ws.length = ps.length) {i : Nat} (h : i < ws.length) : ∃ w p, ws[i]? = some w ∧ ps[i]? = some p ∧ (ws.zip ps)[i]? = some (w, p) := by
  have h2 : i < ps.length := by omega
  exact ⟨ws[i], ps[i], List.getElem?_eq_getElem h, List.getElem?_eq_getElem h2, List.getElem?_zip_eq_some.mpr ⟨List.getElem?_eq_getElem h, List.getElem?_eq_getElem h2⟩⟩
theorem pl_at {ps : List PL} {k : Nat} {p : PL} (e : ps[k]? = some p) : atI (ps.map plD) (k : Int) = some (plD p) := atI_nat (by rw [List.getElem?_map, e]; rfl)
theorem ws_at {ws : List Str} {k : Nat} {w : Str} (e : ws[k]? = some w) : atI (ws.map D.str) (k : Int) = some (.str w) := atI_nat (by rw [List.getElem?_map, e]; rfl)
theorem w_law (te : Addr) (ds : List D) (M : Mo) (Q : QE) (X : XQ) (h : C_law ds M Q X) : vSs (G_law te) b_law (endsOf Q X) (startD 13 ds) M := by
  obtain ⟨ns, rfl, q⟩ := h
  simp (maxSteps := 400000) only [vSs, vS, vE, vEs, vT, vTo, vEo, vI, setV, slV, seqL', keyD, startD, endsOf, List.map_cons, List.map_nil, List.length_cons, List.length_nil, List.replicate, List.cons_append, List.nil_append, Nat.reduceAdd, Nat.reduceSub, Nat.reduceLeDiff, List.getElem?_cons_zero, List.getElem?_cons_succ, Option.some.injEq, exists_eq_left', exists_eq_left, exists_eq', exists_eq, bindT, bindTs, List.set_cons_zero, List.set_cons_succ, ixV, atI0, atI1, atI2, atI3, cmpV, cmpEq, cmpIs, fOp, fCmp, binV, augV, Bi.wp, Bi.val, truD, wipeR, slotsT, slotsTs, Int.cast_ofNat_Int, seqV, seqF, seqL, Option.map_some, Option.map_none, D.ref.injEq, D.int.injEq, D.bl.injEq, MO.lst.injEq, exists_and_left, exists_and_right, updM_same, updM_updM, viewR, viewD, viewDs, flatD, ixN0, ixN1, ixN2, ifB, ifNB, Bool.not_true, Bool.not_false, Bool.false_eq_true, Bool.true_eq_false, if_true, if_false, ite_true, ite_false, true_and, and_true, or_true, true_or, or_false, false_or, false_and, and_false, String.reduceEq, eq_self, decide_true, decide_false, exIf, ne_eq, not_false_eq_true, Nat.zero_le, b_law]
  refine ⟨ns, rfl, fun p M1 m1 => ?_⟩
  simp (maxSteps := 400000) only [vSs, vS, vE, vEs, vT, vTo, vEo, vI, setV, slV, seqL', keyD, startD, endsOf, List.map_cons, List.map_nil, List.length_cons, List.length_nil, List.replicate, List.cons_append, List.nil_append, Nat.reduceAdd, Nat.reduceSub, Nat.reduceLeDiff, List.getElem?_cons_zero, List.getElem?_cons_succ, Option.some.injEq, exists_eq_left', exists_eq_left, exists_eq', exists_eq, bindT, bindTs, List.set_cons_zero, List.set_cons_succ, ixV, atI0, atI1, atI2, atI3, cmpV, cmpEq, cmpIs, fOp, fCmp, binV, augV, Bi.wp, Bi.val, truD, wipeR, slotsT, slotsTs, Int.cast_ofNat_Int, seqV, seqF, seqL, Option.map_some, Option.map_none, D.ref.injEq, D.int.injEq, D.bl.injEq, MO.lst.injEq, exists_and_left, exists_and_right, updM_same, updM_updM, viewR, viewD, viewDs, flatD, ixN0, ixN1, ixN2, ifB, ifNB, Bool.not_true, Bool.not_false, Bool.false_eq_true, Bool.true_eq_false, if_true, if_false, ite_true, ite_false, true_and, and_true, or_true, true_or, or_false, false_or, false_and, and_false, String.reduceEq, eq_self, decide_true, decide_false, exIf, ne_eq, not_false_eq_true, Nat.zero_le, b_law_18]
  refine ⟨p, ns, rfl, m1.2, fun ws M2 hw hwl m2 => ?_⟩
  simp (maxSteps := 400000) only [vSs, vS, vE, vEs, vT, vTo, vEo, vI, setV, slV, seqL', keyD, startD, endsOf, List.map_cons, List.map_nil, List.length_cons, List.length_nil, List.replicate, List.cons_append, List.nil_append, Nat.reduceAdd, Nat.reduceSub, Nat.reduceLeDiff, List.getElem?_cons_zero, List.getElem?_cons_succ, Option.some.injEq, exists_eq_left', exists_eq_left, exists_eq', exists_eq, bindT, bindTs, List.set_cons_zero, List.set_cons_succ, ixV, atI0, atI1, atI2, atI3, cmpV, cmpEq, cmpIs, fOp, fCmp, binV, augV, Bi.wp, Bi.val, truD, wipeR, slotsT, slotsTs, Int.cast_ofNat_Int, seqV, seqF, seqL, Option.map_some, Option.map_none, D.ref.injEq, D.int.injEq, D.bl.injEq, MO.lst.injEq, exists_and_left, exists_and_right, updM_same, updM_updM, viewR, viewD, viewDs, flatD, ixN0, ixN1, ixN2, ifB, ifNB, Bool.not_true, Bool.not_false, Bool.false_eq_true, Bool.true_eq_false, if_true, if_false, ite_true, ite_false, true_and, and_true, or_true, true_or, or_false, false_or, false_and, and_false, String.reduceEq, eq_self, decide_true, decide_false, exIf, ne_eq, not_false_eq_true, Nat.zero_le, b_law_17]
  refine ⟨p, ws, ns, rfl, m2.2, hw, by omega, fun x ps M3 hl hxl hsc hsm hpl m3 => ?_⟩
  refine ⟨_, rfl, ?_⟩
  have hlw : ((ws.map D.str).length : Int) = ws.length := by simp
  have hlz : (ws.zip ps).length = ws.length := by rw [List.length_zip]; omega
  simp (maxSteps := 400000) only [vSs, vS, vE, vEs, vT, vTo, vEo, vI, setV, slV, seqL', keyD, startD, endsOf, List.map_cons, List.map_nil, List.length_cons, List.length_nil, List.replicate, List.cons_append, List.nil_append, Nat.reduceAdd, Nat.reduceSub, Nat.reduceLeDiff, List.getElem?_cons_zero, List.getElem?_cons_succ, Option.some.injEq, exists_eq_left', exists_eq_left, exists_eq', exists_eq, bindT, bindTs, List.set_cons_zero, List.set_cons_succ, ixV, atI0, atI1, atI2, atI3, cmpV, cmpEq, cmpIs, fOp, fCmp, binV, augV, Bi.wp, Bi.val, truD, wipeR, slotsT, slotsTs, Int.cast_ofNat_Int, seqV, seqF, seqL, Option.map_some, Option.map_none, D.ref.injEq, D.int.injEq, D.bl.injEq, MO.lst.injEq, exists_and_left, exists_and_right, updM_same, updM_updM, viewR, viewD, viewDs, flatD, ixN0, ixN1, ixN2, ifB, ifNB, Bool.not_true, Bool.not_false, Bool.false_eq_true, Bool.true_eq_false, if_true, if_false, ite_true, ite_false, true_and, and_true, or_true, true_or, or_false, false_or, false_and, and_false, String.reduceEq, eq_self, decide_true, decide_false, exIf, ne_eq, not_false_eq_true, Nat.zero_le, b_law_16]
  refine ⟨by simp <;> omega, by simp <;> omega, by simp <;> omega, ?_⟩
  refine vComp_range (fun i => .int (0 + (i : Int))) (fun i acc M4 => M4 = M3 ∧ acc = ((ws.zip ps).take i).map itD) (fun i acc M4 hi hI => ?_) (fun acc M4 hI => ?_) ⟨rfl, rfl⟩
  · obtain ⟨rfl, rfl⟩ := hI
    have hi : i < ws.length := by simpa using hi
    obtain ⟨w, pp, h1, h2, h3⟩ := zip_at hl hi
    refine ⟨_, rfl, fun Nx hNx => ?_⟩
    rw [Int.zero_add]
    simp (maxSteps := 400000) only [vSs, vS, vE, vEs, vT, vTo, vEo, vI, setV, slV, seqL', keyD, startD, endsOf, List.map_cons, List.map_nil, List.length_cons, List.length_nil, List.replicate, List.cons_append, List.nil_append, Nat.reduceAdd, Nat.reduceSub, Nat.reduceLeDiff, List.getElem?_cons_zero, List.getElem?_cons_succ, Option.some.injEq, exists_eq_left', exists_eq_left, exists_eq', exists_eq, bindT, bindTs, List.set_cons_zero, List.set_cons_succ, ixV, atI0, atI1, atI2, atI3, cmpV, cmpEq, cmpIs, fOp, fCmp, binV, augV, Bi.wp, Bi.val, truD, wipeR, slotsT, slotsTs, Int.cast_ofNat_Int, seqV, seqF, seqL, Option.map_some, Option.map_none, D.ref.injEq, D.int.injEq, D.bl.injEq, MO.lst.injEq, exists_and_left, exists_and_right, updM_same, updM_updM, viewR, viewD, viewDs, flatD, ixN0, ixN1, ixN2, ifB, ifNB, Bool.not_true, Bool.not_false, Bool.false_eq_true, Bool.true_eq_false, if_true, if_false, ite_true, ite_false, true_and, and_true, or_true, true_or, or_false, false_or, false_and, and_false, String.reduceEq, eq_self, decide_true, decide_false, exIf, ne_eq, not_false_eq_true, Nat.zero_le]
    refine ⟨_, ws_at h1, _, pl_at h2, .int pp.1, atI0, _, pl_at h2, .int pp.2, atI1, hNx _ _ ⟨rfl, ?_⟩⟩
    rw [List.take_succ, h3, List.map_append]; rfl
  obtain ⟨rfl, rfl⟩ := hI
  rw [show (((ws.map D.str).length : Int)).toNat = ws.length by simp, ← hlz, List.take_length]
  have pur : ∀ y ∈ (ws.zip ps).map itD, pureN 1 y := fun y hy => by
    obtain ⟨t, _, rfl⟩ := List.mem_map.mp hy
    exact it_pure t
  have sc1 : ∀ (M5 : Mo) (Q5 : QE) (X5 : XQ), (∀ M6, Sub M5 M6 → Q5 (.lst ((ws.zip ps).map itD)) M6) → C_scan te [.str x] M5 Q5 X5 := fun M5 Q5 X5 hq => ⟨x, ws.zip ps, none, rfl, by omega, hsc, fun _ M6 s6 => hq M6 s6, nofun⟩
  have eq1 : ∀ (M5 : Mo) (Q5 : QE) (X5 : XQ), Q5 (.bl true) M5 → C_eqT [.lst ((ws.zip ps).map itD), .lst ((ws.zip ps).map itD)] M5 Q5 X5 := fun M5 Q5 X5 hq => ⟨_, _, _, rfl, by rw [List.length_map]; omega, pur, .inr ⟨rfl, rfl⟩, hq⟩
  simp (maxSteps := 400000) only [vSs, vS, vE, vEs, vT, vTo, vEo, vI, setV, slV, seqL', keyD, startD, endsOf, List.map_cons, List.map_nil, List.length_cons, List.length_nil, List.replicate, List.cons_append, List.nil_append, Nat.reduceAdd, Nat.reduceSub, Nat.reduceLeDiff, List.getElem?_cons_zero, List.getElem?_cons_succ, Option.some.injEq, exists_eq_left', exists_eq_left, exists_eq', exists_eq, bindT, bindTs, List.set_cons_zero, List.set_cons_succ, ixV, atI0, atI1, atI2, atI3, cmpV, cmpEq, cmpIs, fOp, fCmp, binV, augV, Bi.wp, Bi.val, truD, wipeR, slotsT, slotsTs, Int.cast_ofNat_Int, seqV, seqF, seqL, Option.map_some, Option.map_none, D.ref.injEq, D.int.injEq, D.bl.injEq, MO.lst.injEq, exists_and_left, exists_and_right, updM_same, updM_updM, viewR, viewD, viewDs, flatD, ixN0, ixN1, ixN2, ifB, ifNB, Bool.not_true, Bool.not_false, Bool.false_eq_true, Bool.true_eq_false, if_true, if_false, ite_true, ite_false, true_and, and_true, or_true, true_or, or_false, false_or, false_and, and_false, String.reduceEq, eq_self, decide_true, decide_false, exIf, ne_eq, not_false_eq_true, Nat.zero_le, b_law_15]
  refine sc1 _ _ _ fun M5 s5 => eq1 _ _ _ ⟨true, rfl, ?_⟩
  rw [if_pos rfl]
  refine sc1 _ _ _ fun M6 s6 => eq1 _ _ _ ⟨true, rfl, ?_⟩
  rw [if_pos rfl]
  have hs6 : Stream M6 p ns := by
    obtain ⟨c, k, c0, k0, h0⟩ := m3.2
    exact ⟨c, k, c0, k0, s6 _ _ (s5 _ _ h0)⟩
  obtain ⟨L, z, e1, e2, e3⟩ := lines_ok x
  obtain ⟨e4, e5⟩ := lines_lc e2 e3
  have zl : z.length ≤ 16777216 := by
    have h2 := (lcF_bound (tx x) (1, 1) (by decide) (by decide)).2.2.2
    have h3 := tx_len x
    dsimp only at h2
    omega
  have hln : (((L ++ [z]).map D.str).length : Int) = L.length + 1 := by simp
  have hat : atI ((L ++ [z]).map D.str) (-1) = some (.str z) := by rw [List.map_append]; exact atI_last _ _
  simp (maxSteps := 400000) only [vSs, vS, vE, vEs, vT, vTo, vEo, vI, setV, slV, seqL', keyD, startD, endsOf, List.map_cons, List.map_nil, List.length_cons, List.length_nil, List.replicate, List.cons_append, List.nil_append, Nat.reduceAdd, Nat.reduceSub, Nat.reduceLeDiff, List.getElem?_cons_zero, List.getElem?_cons_succ, Option.some.injEq, exists_eq_left', exists_eq_left, exists_eq', exists_eq, bindT, bindTs, List.set_cons_zero, List.set_cons_succ, ixV, atI0, atI1, atI2, atI3, cmpV, cmpEq, cmpIs, fOp, fCmp, binV, augV, Bi.wp, Bi.val, truD, wipeR, slotsT, slotsTs, Int.cast_ofNat_Int, seqV, seqF, seqL, Option.map_some, Option.map_none, D.ref.injEq, D.int.injEq, D.bl.injEq, MO.lst.injEq, exists_and_left, exists_and_right, updM_same, updM_updM, viewR, viewD, viewDs, flatD, ixN0, ixN1, ixN2, ifB, ifNB, Bool.not_true, Bool.not_false, Bool.false_eq_true, Bool.true_eq_false, if_true, if_false, ite_true, ite_false, true_and, and_true, or_true, true_or, or_false, false_or, false_and, and_false, String.reduceEq, eq_self, decide_true, decide_false, exIf, ne_eq, not_false_eq_true, Nat.zero_le, b_law_14, nl_eq]
  refine ⟨⟨_, rfl⟩, _, rfl, _, rfl, by decide, by unfold sizeLine; omega, ?_⟩
  rw [e1]
  simp (maxSteps := 400000) only [vSs, vS, vE, vEs, vT, vTo, vEo, vI, setV, slV, seqL', keyD, startD, endsOf, List.map_cons, List.map_nil, List.length_cons, List.length_nil, List.replicate, List.cons_append, List.nil_append, Nat.reduceAdd, Nat.reduceSub, Nat.reduceLeDiff, List.getElem?_cons_zero, List.getElem?_cons_succ, Option.some.injEq, exists_eq_left', exists_eq_left, exists_eq', exists_eq, bindT, bindTs, List.set_cons_zero, List.set_cons_succ, ixV, atI0, atI1, atI2, atI3, cmpV, cmpEq, cmpIs, fOp, fCmp, binV, augV, Bi.wp, Bi.val, truD, wipeR, slotsT, slotsTs, Int.cast_ofNat_Int, seqV, seqF, seqL, Option.map_some, Option.map_none, D.ref.injEq, D.int.injEq, D.bl.injEq, MO.lst.injEq, exists_and_left, exists_and_right, updM_same, updM_updM, viewR, viewD, viewDs, flatD, ixN0, ixN1, ixN2, ifB, ifNB, Bool.not_true, Bool.not_false, Bool.false_eq_true, Bool.true_eq_false, if_true, if_false, ite_true, ite_false, true_and, and_true, or_true, true_or, or_false, false_or, false_and, and_false, String.reduceEq, eq_self, decide_true, decide_false, exIf, ne_eq, not_false_eq_true, Nat.zero_le, b_law_13]
  refine ⟨x, rfl, by omega, ?_⟩
  refine ⟨_, hat, .int z.length, if_pos zl, .int (z.length + 1), rfl, ?_⟩
  rw [hln, e4, e5]
  refine ⟨_, _, [.int (L.length + 1), .int (z.length + 1)], rfl, by simp, fun y hy => ?_, .inl ⟨rfl, rfl⟩, true, rfl, ?_⟩
  · simp only [List.mem_cons, List.not_mem_nil, or_false] at hy
    rcases hy with rfl | rfl <;> trivial
  rw [if_pos rfl]
  have fin : ∀ (K : EndsD) (M7 : Mo), K.rt = (endsOf Q X).rt → vSs (G_law te) b_law_11 K [some (.lst (ns.map .int)), some (.ref p), some (.lst (ws.map .str)), some (.str x), some (.lst (ps.map plD)), some (.lst ((ws.zip ps).map itD)), none, some (.lst ((L ++ [z]).map .str)), none, none, none, none, none] M7 := by
    intro K M7 hK
    simp (maxSteps := 400000) only [vSs, vS, vE, vEs, vT, vTo, vEo, vI, setV, slV, seqL', keyD, startD, endsOf, List.map_cons, List.map_nil, List.length_cons, List.length_nil, List.replicate, List.cons_append, List.nil_append, Nat.reduceAdd, Nat.reduceSub, Nat.reduceLeDiff, List.getElem?_cons_zero, List.getElem?_cons_succ, Option.some.injEq, exists_eq_left', exists_eq_left, exists_eq', exists_eq, bindT, bindTs, List.set_cons_zero, List.set_cons_succ, ixV, atI0, atI1, atI2, atI3, cmpV, cmpEq, cmpIs, fOp, fCmp, binV, augV, Bi.wp, Bi.val, truD, wipeR, slotsT, slotsTs, Int.cast_ofNat_Int, seqV, seqF, seqL, Option.map_some, Option.map_none, D.ref.injEq, D.int.injEq, D.bl.injEq, MO.lst.injEq, exists_and_left, exists_and_right, updM_same, updM_updM, viewR, viewD, viewDs, flatD, ixN0, ixN1, ixN2, ifB, ifNB, Bool.not_true, Bool.not_false, Bool.false_eq_true, Bool.true_eq_false, if_true, if_false, ite_true, ite_false, true_and, and_true, or_true, true_or, or_false, false_or, false_and, and_false, String.reduceEq, eq_self, decide_true, decide_false, exIf, ne_eq, not_false_eq_true, Nat.zero_le, b_law_11]
    rw [hK]
    exact ⟨_, Sub.refl _, q _⟩
  simp (maxSteps := 400000) only [vSs, vS, vE, vEs, vT, vTo, vEo, vI, setV, slV, seqL', keyD, startD, endsOf, List.map_cons, List.map_nil, List.length_cons, List.length_nil, List.replicate, List.cons_append, List.nil_append, Nat.reduceAdd, Nat.reduceSub, Nat.reduceLeDiff, List.getElem?_cons_zero, List.getElem?_cons_succ, Option.some.injEq, exists_eq_left', exists_eq_left, exists_eq', exists_eq, bindT, bindTs, List.set_cons_zero, List.set_cons_succ, ixV, atI0, atI1, atI2, atI3, cmpV, cmpEq, cmpIs, fOp, fCmp, binV, augV, Bi.wp, Bi.val, truD, wipeR, slotsT, slotsTs, Int.cast_ofNat_Int, seqV, seqF, seqL, Option.map_some, Option.map_none, D.ref.injEq, D.int.injEq, D.bl.injEq, MO.lst.injEq, exists_and_left, exists_and_right, updM_same, updM_updM, viewR, viewD, viewDs, flatD, ixN0, ixN1, ixN2, ifB, ifNB, Bool.not_true, Bool.not_false, Bool.false_eq_true, Bool.true_eq_false, if_true, if_false, ite_true, ite_false, true_and, and_true, or_true, true_or, or_false, false_or, false_and, and_false, String.reduceEq, eq_self, decide_true, decide_false, exIf, ne_eq, not_false_eq_true, Nat.zero_le, b_law_12]
  refine iteI (fun _ => fin _ M6 rfl) fun hne => ?_
  refine use_next hs6 (by decide) (by decide) fun r7 M7 r70 r71 m7 => ⟨_, rfl, iteI (fun _ => ?_) fun _ => fin _ M7 rfl⟩
  have hwp : 0 < ws.length := by
    cases ws with
    | nil => exact absurd rfl hne
    | cons w r => simp
  simp (maxSteps := 400000) only [vSs, vS, vE, vEs, vT, vTo, vEo, vI, setV, slV, seqL', keyD, startD, endsOf, List.map_cons, List.map_nil, List.length_cons, List.length_nil, List.replicate, List.cons_append, List.nil_append, Nat.reduceAdd, Nat.reduceSub, Nat.reduceLeDiff, List.getElem?_cons_zero, List.getElem?_cons_succ, Option.some.injEq, exists_eq_left', exists_eq_left, exists_eq', exists_eq, bindT, bindTs, List.set_cons_zero, List.set_cons_succ, ixV, atI0, atI1, atI2, atI3, cmpV, cmpEq, cmpIs, fOp, fCmp, binV, augV, Bi.wp, Bi.val, truD, wipeR, slotsT, slotsTs, Int.cast_ofNat_Int, seqV, seqF, seqL, Option.map_some, Option.map_none, D.ref.injEq, D.int.injEq, D.bl.injEq, MO.lst.injEq, exists_and_left, exists_and_right, updM_same, updM_updM, viewR, viewD, viewDs, flatD, ixN0, ixN1, ixN2, ifB, ifNB, Bool.not_true, Bool.not_false, Bool.false_eq_true, Bool.true_eq_false, if_true, if_false, ite_true, ite_false, true_and, and_true, or_true, true_or, or_false, false_or, false_and, and_false, String.reduceEq, eq_self, decide_true, decide_false, exIf, ne_eq, not_false_eq_true, Nat.zero_le, b_law_10]
  simp (maxSteps := 400000) only [vSs, vS, vE, vEs, vT, vTo, vEo, vI, setV, slV, seqL', keyD, startD, endsOf, List.map_cons, List.map_nil, List.length_cons, List.length_nil, List.replicate, List.cons_append, List.nil_append, Nat.reduceAdd, Nat.reduceSub, Nat.reduceLeDiff, List.getElem?_cons_zero, List.getElem?_cons_succ, Option.some.injEq, exists_eq_left', exists_eq_left, exists_eq', exists_eq, bindT, bindTs, List.set_cons_zero, List.set_cons_succ, ixV, atI0, atI1, atI2, atI3, cmpV, cmpEq, cmpIs, fOp, fCmp, binV, augV, Bi.wp, Bi.val, truD, wipeR, slotsT, slotsTs, Int.cast_ofNat_Int, seqV, seqF, seqL, Option.map_some, Option.map_none, D.ref.injEq, D.int.injEq, D.bl.injEq, MO.lst.injEq, exists_and_left, exists_and_right, updM_same, updM_updM, viewR, viewD, viewDs, flatD, ixN0, ixN1, ixN2, ifB, ifNB, Bool.not_true, Bool.not_false, Bool.false_eq_true, Bool.true_eq_false, if_true, if_false, ite_true, ite_false, true_and, and_true, or_true, true_or, or_false, false_or, false_and, and_false, String.reduceEq, eq_self, decide_true, decide_false, exIf, ne_eq, not_false_eq_true, Nat.zero_le, b_law_9, hlw]
  refine use_next m7.2 (by omega) (by omega) fun k M8 k0 k1 m8 => ?_
  obtain ⟨k, rfl⟩ := Int.eq_ofNat_of_zero_le k0
  obtain ⟨w, pp, g1, g2, _⟩ := zip_at hl (show k < ws.length by omega)
  have hwok := hw w (List.mem_of_getElem? g1)
  have hw6 := wds_len w hwok
  have hw1 : 0 < w.length := by
    rw [tx_len]
    rcases wds_sp w hwok with ⟨_, h | h⟩ | ⟨_, _, h, _⟩
    · rw [h]; decide
    · rw [h]; decide
    · exact List.length_pos_iff.mpr h
  simp (maxSteps := 400000) only [vSs, vS, vE, vEs, vT, vTo, vEo, vI, setV, slV, seqL', keyD, startD, endsOf, List.map_cons, List.map_nil, List.length_cons, List.length_nil, List.replicate, List.cons_append, List.nil_append, Nat.reduceAdd, Nat.reduceSub, Nat.reduceLeDiff, List.getElem?_cons_zero, List.getElem?_cons_succ, Option.some.injEq, exists_eq_left', exists_eq_left, exists_eq', exists_eq, bindT, bindTs, List.set_cons_zero, List.set_cons_succ, ixV, atI0, atI1, atI2, atI3, cmpV, cmpEq, cmpIs, fOp, fCmp, binV, augV, Bi.wp, Bi.val, truD, wipeR, slotsT, slotsTs, Int.cast_ofNat_Int, seqV, seqF, seqL, Option.map_some, Option.map_none, D.ref.injEq, D.int.injEq, D.bl.injEq, MO.lst.injEq, exists_and_left, exists_and_right, updM_same, updM_updM, viewR, viewD, viewDs, flatD, ixN0, ixN1, ixN2, ifB, ifNB, Bool.not_true, Bool.not_false, Bool.false_eq_true, Bool.true_eq_false, if_true, if_false, ite_true, ite_false, true_and, and_true, or_true, true_or, or_false, false_or, false_and, and_false, String.reduceEq, eq_self, decide_true, decide_false, exIf, ne_eq, not_false_eq_true, Nat.zero_le, b_law_8]
  refine ⟨_, ws_at g1, .int w.length, if_pos (by omega), ?_⟩
  refine use_next m8.2 (by omega) (by omega) fun j M9 j0 j1 m9 => ?_
  obtain ⟨j, rfl⟩ := Int.eq_ofNat_of_zero_le j0
  obtain ⟨t, m, toks, r, f1, f2, f3, f4⟩ := hpl k w pp g1 g2
  have hLne : (L ++ [z]).map tx ≠ [] := by simp
  obtain ⟨n, n1, n2, n3⟩ := jn_at ((L ++ [z]).map tx) t (tx w ++ r) hLne (fun a ha => by
    obtain ⟨b, hb, rfl⟩ := List.mem_map.mp ha
    exact e2 b hb) (by rw [← e3, f1, List.append_assoc])
  have n2 : n < (L ++ [z]).length := by simpa using n2
  have xlen : x.length = t.length + ((tx w).length + r.length) := by rw [tx_len x, f1]; simp <;> omega
  have hjw : j < (tx w).length := by rw [← tx_len]; omega
  have hpp : pp.1 - 1 = (n : Nat) := by rw [f2]; omega
  simp (maxSteps := 400000) only [vSs, vS, vE, vEs, vT, vTo, vEo, vI, setV, slV, seqL', keyD, startD, endsOf, List.map_cons, List.map_nil, List.length_cons, List.length_nil, List.replicate, List.cons_append, List.nil_append, Nat.reduceAdd, Nat.reduceSub, Nat.reduceLeDiff, List.getElem?_cons_zero, List.getElem?_cons_succ, Option.some.injEq, exists_eq_left', exists_eq_left, exists_eq', exists_eq, bindT, bindTs, List.set_cons_zero, List.set_cons_succ, ixV, atI0, atI1, atI2, atI3, cmpV, cmpEq, cmpIs, fOp, fCmp, binV, augV, Bi.wp, Bi.val, truD, wipeR, slotsT, slotsTs, Int.cast_ofNat_Int, seqV, seqF, seqL, Option.map_some, Option.map_none, D.ref.injEq, D.int.injEq, D.bl.injEq, MO.lst.injEq, exists_and_left, exists_and_right, updM_same, updM_updM, viewR, viewD, viewDs, flatD, ixN0, ixN1, ixN2, ifB, ifNB, Bool.not_true, Bool.not_false, Bool.false_eq_true, Bool.true_eq_false, if_true, if_false, ite_true, ite_false, true_and, and_true, or_true, true_or, or_false, false_or, false_and, and_false, String.reduceEq, eq_self, decide_true, decide_false, exIf, ne_eq, not_false_eq_true, Nat.zero_le, b_law_7]
  refine ⟨_, pl_at g2, .int pp.1, atI0, .int ((n : Nat) : Int), by show some (D.int (pp.1 - 1)) = _; rw [hpp], _, rfl, ?_⟩
  rw [cut_lo (by omega)]
  have lnl : ∀ a ∈ L ++ [z], a.length ≤ x.length := fun a ha => by
    rw [tx_len a, tx_len x, e3]
    exact jn_le _ _ (List.mem_map.mpr ⟨a, ha, rfl⟩)
  have few : (L ++ [z]).length ≤ 16777216 := by
    have h2 := (lcF_bound (tx x) (1, 1) (by decide) (by decide)).2.2.1
    have h3 := tx_len x
    dsimp only at h2
    simp; omega
  refine ⟨by simp at few ⊢; omega, ?_⟩
  refine vComp_map (α := Str) .str (fun a => .int ((a.length : Int) + 1)) (fun a ha => ⟨_, rfl, fun N N' hN => ?_⟩) ?_
  · simp (maxSteps := 400000) only [vSs, vS, vE, vEs, vT, vTo, vEo, vI, setV, slV, seqL', keyD, startD, endsOf, List.map_cons, List.map_nil, List.length_cons, List.length_nil, List.replicate, List.cons_append, List.nil_append, Nat.reduceAdd, Nat.reduceSub, Nat.reduceLeDiff, List.getElem?_cons_zero, List.getElem?_cons_succ, Option.some.injEq, exists_eq_left', exists_eq_left, exists_eq', exists_eq, bindT, bindTs, List.set_cons_zero, List.set_cons_succ, ixV, atI0, atI1, atI2, atI3, cmpV, cmpEq, cmpIs, fOp, fCmp, binV, augV, Bi.wp, Bi.val, truD, wipeR, slotsT, slotsTs, Int.cast_ofNat_Int, seqV, seqF, seqL, Option.map_some, Option.map_none, D.ref.injEq, D.int.injEq, D.bl.injEq, MO.lst.injEq, exists_and_left, exists_and_right, updM_same, updM_updM, viewR, viewD, viewDs, flatD, ixN0, ixN1, ixN2, ifB, ifNB, Bool.not_true, Bool.not_false, Bool.false_eq_true, Bool.true_eq_false, if_true, if_false, ite_true, ite_false, true_and, and_true, or_true, true_or, or_false, false_or, false_and, and_false, String.reduceEq, eq_self, decide_true, decide_false, exIf, ne_eq, not_false_eq_true, Nat.zero_le]
    exact ⟨by have := lnl a (List.mem_of_mem_take ha); omega, hN⟩
  rw [List.nil_append]
  have hsum : ((((L ++ [z]).take n).map fun a => (a.length : Int) + 1).sum) + pp.2 - 1 = t.length := by
    have e : ((fun a : List Nat => (a.length : Int) + 1) ∘ tx) = fun a : Str => (a.length : Int) + 1 := by
      funext a
      show ((tx a).length : Int) + 1 = _
      rw [← tx_len a]
    rw [f2, ← n3, ← List.map_take, List.map_map, e]
  refine ⟨.int (((L ++ [z]).take n).map fun a => (a.length : Int) + 1).sum, ?_, ?_⟩
  · show (allInt (((L ++ [z]).take n).map fun a => D.int ((a.length : Int) + 1))).map _ = _
    rw [allInt_map (fun a : Str => (a.length : Int) + 1)]
    rfl
  refine ⟨_, pl_at g2, .int pp.2, atI1, .int ((((L ++ [z]).take n).map fun a => (a.length : Int) + 1).sum + pp.2), rfl, .int (t.length : Nat), by show some (D.int ((((L ++ [z]).take n).map fun a => (a.length : Int) + 1).sum + pp.2 - 1)) = _; rw [hsum], .int ((t.length + j : Nat) : Int), by show some (D.int ((t.length : Int) + (j : Int))) = _; rw [Int.natCast_add], ?_⟩
  have tj : t.length + j ≤ x.length := by omega
  simp (maxSteps := 400000) only [vSs, vS, vE, vEs, vT, vTo, vEo, vI, setV, slV, seqL', keyD, startD, endsOf, List.map_cons, List.map_nil, List.length_cons, List.length_nil, List.replicate, List.cons_append, List.nil_append, Nat.reduceAdd, Nat.reduceSub, Nat.reduceLeDiff, List.getElem?_cons_zero, List.getElem?_cons_succ, Option.some.injEq, exists_eq_left', exists_eq_left, exists_eq', exists_eq, bindT, bindTs, List.set_cons_zero, List.set_cons_succ, ixV, atI0, atI1, atI2, atI3, cmpV, cmpEq, cmpIs, fOp, fCmp, binV, augV, Bi.wp, Bi.val, truD, wipeR, slotsT, slotsTs, Int.cast_ofNat_Int, seqV, seqF, seqL, Option.map_some, Option.map_none, D.ref.injEq, D.int.injEq, D.bl.injEq, MO.lst.injEq, exists_and_left, exists_and_right, updM_same, updM_updM, viewR, viewD, viewDs, flatD, ixN0, ixN1, ixN2, ifB, ifNB, Bool.not_true, Bool.not_false, Bool.false_eq_true, Bool.true_eq_false, if_true, if_false, ite_true, ite_false, true_and, and_true, or_true, true_or, or_false, false_or, false_and, and_false, String.reduceEq, eq_self, decide_true, decide_false, exIf, ne_eq, not_false_eq_true, Nat.zero_le, b_law_6, str_len.2]
  refine ⟨by omega, ?_⟩
  refine use_next m9.2 (by decide) (by decide) fun r8 M10 r80 r81 m10 => ?_
  obtain ⟨j8, rfl⟩ := Int.eq_ofNat_of_zero_le r80
  have hj8 : j8 < (tx STR).length := by rw [str_len.1]; omega
  have hbad : isBad (tx STR)[j8] := str_bad _ (List.getElem_mem hj8)
  generalize hs0 : (tx STR)[j8] = s0 at hbad
  have hats : atI (tx STR) (j8 : Int) = some s0 := by rw [← hs0]; exact atI_nat (List.getElem?_eq_getElem hj8)
  have c1 := cutS_lo (x := x) tj
  have c2 := cutS_hi (x := x) tj
  have l1 : (cutS x none (some ((t.length + j : Nat) : Int))).length = t.length + j := by rw [tx_len, c1, List.length_take, ← tx_len]; omega
  have l2 : (cutS x (some ((t.length + j : Nat) : Int)) none).length = x.length - (t.length + j) := by rw [tx_len, c2, List.length_drop, ← tx_len]
  have l3 : ((⟨#[s0]⟩ : Str)).length = 1 := rfl
  have l4 : (cutS x none (some ((t.length + j : Nat) : Int)) ++ (⟨#[s0]⟩ : Str)).length = t.length + j + 1 := by rw [tx_len, tx_app, List.length_append, ← tx_len, l1]; rfl
  refine ⟨_, ixV_at (M := M10) (by rw [str_len.2]; decide) hats, _, if_pos (by rw [l1, l3]; omega), by omega, _, if_pos (by rw [l4, l2]; omega), ?_⟩
  generalize hb : cutS x none (some ((t.length + j : Nat) : Int)) ++ (⟨#[s0]⟩ : Str) ++ cutS x (some ((t.length + j : Nat) : Int)) none = bh
  have tb : tx bh = t ++ ((tx w).take j ++ s0 :: ((tx w).drop j ++ r)) := by
    have hj0 : j ≤ (tx w).length := Nat.le_of_lt hjw
    have t1 : (t ++ tx w ++ r).take (t.length + j) = t ++ (tx w).take j := by rw [List.append_assoc, List.take_length_add_append, List.take_append_of_le_length hj0]
    have t2 : (t ++ tx w ++ r).drop (t.length + j) = (tx w).drop j ++ r := by rw [List.append_assoc, List.drop_length_add_append, List.drop_append_of_le_length hj0]
    rw [← hb, tx_app, tx_app, c1, c2, f1, t1, t2]
    show t ++ (tx w).take j ++ [s0] ++ ((tx w).drop j ++ r) = _
    simp
  have lb : bh.length ≤ 200000 := by rw [← hb, tx_len, tx_app, List.length_append, ← tx_len, ← tx_len, l4, l2]; omega
  have fin4 : ∀ (y : Str) (K : EndsD) (M11 : Mo) (rest : List Nat), K.rt = (endsOf Q X).rt → (∀ c fs ρ M, (endsOf Q X).ex c fs ρ M → K.ex c fs ρ M) → y.length ≤ 1000000 → tx y = t ++ ((tx w).take j ++ s0 :: rest) →
      vSs (G_law te) b_law_4 K [some (.lst (ns.map .int)), some (.ref p), some (.lst (ws.map .str)), some (.str x), some (.lst (ps.map plD)), some (.lst ((ws.zip ps).map itD)), some (.int (k : Nat)), some (.lst ((L ++ [z]).map .str)), some (.str STR), some (.int (j : Nat)), some (.int ((t.length + j : Nat) : Int)), none, some (.str y)] M11 := by
    intro y K M11 rest hK _ hy ty
    obtain ⟨its, hbs⟩ := bad_sc (rest := rest) f3 hwok f4 hjw hbad
    rw [← ty, ← f2] at hbs
    have hpS : smallP pp := hsm _ (List.mem_of_getElem? g2)
    simp (maxSteps := 400000) only [vSs, vS, vE, vEs, vT, vTo, vEo, vI, setV, slV, seqL', keyD, startD, endsOf, List.map_cons, List.map_nil, List.length_cons, List.length_nil, List.replicate, List.cons_append, List.nil_append, Nat.reduceAdd, Nat.reduceSub, Nat.reduceLeDiff, List.getElem?_cons_zero, List.getElem?_cons_succ, Option.some.injEq, exists_eq_left', exists_eq_left, exists_eq', exists_eq, bindT, bindTs, List.set_cons_zero, List.set_cons_succ, ixV, atI0, atI1, atI2, atI3, cmpV, cmpEq, cmpIs, fOp, fCmp, binV, augV, Bi.wp, Bi.val, truD, wipeR, slotsT, slotsTs, Int.cast_ofNat_Int, seqV, seqF, seqL, Option.map_some, Option.map_none, D.ref.injEq, D.int.injEq, D.bl.injEq, MO.lst.injEq, exists_and_left, exists_and_right, updM_same, updM_updM, viewR, viewD, viewDs, flatD, ixN0, ixN1, ixN2, ifB, ifNB, Bool.not_true, Bool.not_false, Bool.false_eq_true, Bool.true_eq_false, if_true, if_false, ite_true, ite_false, true_and, and_true, or_true, true_or, or_false, false_or, false_and, and_false, String.reduceEq, eq_self, decide_true, decide_false, exIf, ne_eq, not_false_eq_true, Nat.zero_le, b_law_4]
    refine ⟨_, pl_at g2, .int pp.1, atI0, _, pl_at g2, .int pp.2, atI1, .int (pp.2 + (j : Nat)), rfl, ?_⟩
    refine ⟨y, pp.1, pp.2 + (j : Nat), its, rfl, hy, hbs, ⟨hpS.1, ?_⟩, fun M12 => ?_⟩
    · have h2 := lcF_bound t (1, 1) (by decide) (by decide)
      rw [← f2] at h2
      have h3 := h2.2.2.2
      have h4 := h2.2.1
      dsimp only at h3
      rw [← tx_len] at hjw
      exact ⟨by show 0 ≤ pp.2 + (j : Int); omega, by show pp.2 + (j : Int) < 10 ^ 9; omega⟩
    · rw [hK]
      exact ⟨_, Sub.refl _, q _⟩
  simp (maxSteps := 400000) only [vSs, vS, vE, vEs, vT, vTo, vEo, vI, setV, slV, seqL', keyD, startD, endsOf, List.map_cons, List.map_nil, List.length_cons, List.length_nil, List.replicate, List.cons_append, List.nil_append, Nat.reduceAdd, Nat.reduceSub, Nat.reduceLeDiff, List.getElem?_cons_zero, List.getElem?_cons_succ, Option.some.injEq, exists_eq_left', exists_eq_left, exists_eq', exists_eq, bindT, bindTs, List.set_cons_zero, List.set_cons_succ, ixV, atI0, atI1, atI2, atI3, cmpV, cmpEq, cmpIs, fOp, fCmp, binV, augV, Bi.wp, Bi.val, truD, wipeR, slotsT, slotsTs, Int.cast_ofNat_Int, seqV, seqF, seqL, Option.map_some, Option.map_none, D.ref.injEq, D.int.injEq, D.bl.injEq, MO.lst.injEq, exists_and_left, exists_and_right, updM_same, updM_updM, viewR, viewD, viewDs, flatD, ixN0, ixN1, ixN2, ifB, ifNB, Bool.not_true, Bool.not_false, Bool.false_eq_true, Bool.true_eq_false, if_true, if_false, ite_true, ite_false, true_and, and_true, or_true, true_or, or_false, false_or, false_and, and_false, String.reduceEq, eq_self, decide_true, decide_false, exIf, ne_eq, not_false_eq_true, Nat.zero_le, b_law_5]
  refine use_next m10.2 (by decide) (by decide) fun r9 M11 r90 r91 m11 => ⟨_, rfl, iteI (fun _ => ?_) fun _ => ?_⟩
  · simp (maxSteps := 400000) only [vSs, vS, vE, vEs, vT, vTo, vEo, vI, setV, slV, seqL', keyD, startD, endsOf, List.map_cons, List.map_nil, List.length_cons, List.length_nil, List.replicate, List.cons_append, List.nil_append, Nat.reduceAdd, Nat.reduceSub, Nat.reduceLeDiff, List.getElem?_cons_zero, List.getElem?_cons_succ, Option.some.injEq, exists_eq_left', exists_eq_left, exists_eq', exists_eq, bindT, bindTs, List.set_cons_zero, List.set_cons_succ, ixV, atI0, atI1, atI2, atI3, cmpV, cmpEq, cmpIs, fOp, fCmp, binV, augV, Bi.wp, Bi.val, truD, wipeR, slotsT, slotsTs, Int.cast_ofNat_Int, seqV, seqF, seqL, Option.map_some, Option.map_none, D.ref.injEq, D.int.injEq, D.bl.injEq, MO.lst.injEq, exists_and_left, exists_and_right, updM_same, updM_updM, viewR, viewD, viewDs, flatD, ixN0, ixN1, ixN2, ifB, ifNB, Bool.not_true, Bool.not_false, Bool.false_eq_true, Bool.true_eq_false, if_true, if_false, ite_true, ite_false, true_and, and_true, or_true, true_or, or_false, false_or, false_and, and_false, String.reduceEq, eq_self, decide_true, decide_false, exIf, ne_eq, not_false_eq_true, Nat.zero_le, b_law_3]
    have l6 : (Str.ofString "\n!").length = 2 := by decide +kernel
    have l5 : (bh ++ Str.ofString "\n!").length = bh.length + 2 := by rw [tx_len, tx_app, List.length_append, ← tx_len, ← tx_len, l6]
    refine ⟨by rw [l6]; omega, ?_⟩
    exact fin4 _ _ M11 ((tx w).drop j ++ r ++ tx (Str.ofString "\n!")) rfl (fun _ _ _ _ h => h) (by omega) (by rw [tx_app, tb]; simp)
  · exact fin4 bh _ M11 _ rfl (fun _ _ _ _ h => h) (by omega) tb
end K85
set_option maxHeartbeats 0
namespace K85
open PySem PySem.Spec PyProof.Rows L2 Vp
theorem exAt {l : List (PySem.W.Frag → Bool)} {K : PySem.W.Frag} (h : (l.all fun f => f K) = true) (i : Nat) {f : PySem.W.Frag → Bool} (e : l[i]? = some f := by rfl) : f K = true := List.all_eq_true.mp h f (List.mem_of_getElem? e)
def tabF : List He.Tab := []
def faL : List He.Fa := [.free "len", .glo "comment_end", .glo "word_end", .glo "PlanError", .glo "TextError", .glo "scan", .glo "end_of", .free "list", .glo "_law_stream", .free "int", .free "abs", .glo "_law_next", .glo "_law_gap", .free "enumerate", .glo "_law_laid", .free "range", .glo "_law_words", .free "isinstance", .free "bool", .glo "_law_is_integer", .glo "_law_equal", .free "tuple", .free "str", .free "all", .exm "TextError" "TextError" true, .glo "_law_refused", .free "sum", .glo "law"]
def fnL : List He.DefD := [⟨("comment_end", none), "comment_end", "comment_end", defArgs st_comment_end, defBody st_comment_end, defScope st_comment_end, [], []⟩, ⟨("word_end", none), "word_end", "word_end", defArgs st_word_end, defBody st_word_end, defScope st_word_end, [], []⟩, ⟨("TextError", some "__init__"), "__init__", "TextError.__init__", defArgs st_TextError___init__, defBody st_TextError___init__, defScope st_TextError___init__, [], []⟩, ⟨("scan", none), "scan", "scan", defArgs st_scan, defBody st_scan, defScope st_scan, [], []⟩, ⟨("end_of", none), "end_of", "end_of", defArgs st_end_of, defBody st_end_of, defScope st_end_of, [], []⟩, ⟨("_law_stream", none), "_law_stream", "_law_stream", defArgs st_law_stream, defBody st_law_stream, defScope st_law_stream, [], []⟩, ⟨("_law_next", none), "_law_next", "_law_next", defArgs st_law_next, defBody st_law_next, defScope st_law_next, [], []⟩, ⟨("_law_gap", none), "_law_gap", "_law_gap", defArgs st_law_gap, defBody st_law_gap, defScope st_law_gap, [], []⟩, ⟨("_law_laid", none), "_law_laid", "_law_laid", defArgs st_law_laid, defBody st_law_laid, defScope st_law_laid, [], []⟩, ⟨("_law_words", none), "_law_words", "_law_words", defArgs st_law_words, defBody st_law_words, defScope st_law_words, [], []⟩, ⟨("_law_is_integer", none), "_law_is_integer", "_law_is_integer", defArgs st_law_is_integer, defBody st_law_is_integer, defScope st_law_is_integer, [], []⟩, ⟨("_law_equal", none), "_law_equal", "_law_equal", defArgs st_law_equal, defBody st_law_equal, defScope st_law_equal, [], []⟩, ⟨("_law_refused", none), "_law_refused", "_law_refused", defArgs st_law_refused, defBody st_law_refused, defScope st_law_refused, [], []⟩, ⟨("law", none), "law", "law", defArgs st_law, defBody st_law, defScope st_law, [], []⟩]
def exs : List (PySem.W.Frag → Bool) := [cstB "WORD_CHARACTERS" (.str WORD), peB "PlanError", (fun K => xfB K (He.ga K "TextError")), xflB "TextError" "line", oexB "TextError", xflB "TextError" "column", xflB "TextError" "words", xinB "TextError"]
def exL (K : PySem.W.Frag) : Bool := exs.all fun f => f K
def tfL : List He.Defn := []
theorem seq_hide {K : PySem.W.Frag} {H : Hp} {ts : List Addr} {a : Addr} {xs : List V} (ht : ∀ t ∈ ts, H t = some (.tbl #[])) (h : SqL K H a xs) : SqL K (fun b => if b ∈ ts then none else H b) a xs := by
  rcases h with h | h
  · by_cases z : a ∈ ts
    · have := ht a z
      exfalso
      unfold Rd at h
      rw [this] at h
      simp at h
    · refine .inl ?_
      unfold Rd at h ⊢
      simp only [if_neg z]
      exact h
  · exact .inr h
abbrev Fx (w : World) (h : Heap) (K : PySem.W.Frag) : Prop := He.SaysX faL fnL tabF tfL exL w h K

theorem law_fn {P : Program} {w : World} {K : PySem.W.Frag} {mg : Str → Option Value} {base h : Heap} (X : K.In h) (G : h.Ns mainGlobals mg) (c : Fx w h K) {fdl : FuncData} (FL : FunD K "law" "law" (defArgs st_law) (defBody st_law) (defScope st_law) [] [] (He.fAd K ("law", none)) fdl) (hNs : base.Ns mainGlobals mg) (hI : K.In base) :
    FnOk P w K mg base (L2N.CX P w) 5 (He.ga K "law") fdl ["script"] (spOf K 1 C_law) := by
  have D_comment_end : DefK K "comment_end" "comment_end" st_comment_end ["text", "at"] (He.fAd K ("comment_end", none)) := DefK.of (f := He.fAd K ("comment_end", none)) (c.t.d.def_ 0 rfl) (fun _ _ _ _ _ _ us hl => match us, hl with | [_, _], _ => rfl)
  have h_ce : HasF P w K mg base 1 ⟨"comment_end", 2, C_ce⟩ := hasF D_comment_end (He.glo_ok X G (c.t.d.fact 1 rfl)) (DefK.ok (k := 0) (n := 2) (con := C_ce) D_comment_end sc_comment_end rfl (fun ds M Q X h => w_ce ds M Q X h) rfl rfl ck_comment_end { fns := all_nil, cs := all_nil, mks := all_nil, mts := all_nil, fls := all_nil, kms := all_nil, xcs := all_nil, pes := all_nil, exm := all_nil, xfl := all_nil, kd := all_nil } (all_cons (He.free_ok X G (c.t.d.fact 0 rfl)) all_nil))
  have D_word_end : DefK K "word_end" "word_end" st_word_end ["text", "at"] (He.fAd K ("word_end", none)) := DefK.of (f := He.fAd K ("word_end", none)) (c.t.d.def_ 1 rfl) (fun _ _ _ _ _ _ us hl => match us, hl with | [_, _], _ => rfl)
  have h_we : HasF P w K mg base 1 ⟨"word_end", 2, C_we⟩ := hasF D_word_end (He.glo_ok X G (c.t.d.fact 2 rfl)) (DefK.ok (k := 0) (n := 2) (con := C_we) D_word_end sc_word_end rfl (fun ds M Q X h => w_we ds M Q X h) rfl rfl ck_word_end { fns := all_nil, cs := (all_cons (cstB_ok X G (exAt c.more 0 rfl)) all_nil), mks := all_nil, mts := all_nil, fls := all_nil, kms := all_nil, xcs := all_nil, pes := all_nil, exm := all_nil, xfl := all_nil, kd := all_nil } (all_cons (He.free_ok X G (c.t.d.fact 0 rfl)) all_nil))
  have D_TextError___init__ : DefK K "__init__" "TextError.__init__" st_TextError___init__ ["self", "line", "column", "words"] (He.fAd K ("TextError", some "__init__")) := DefK.of (f := He.fAd K ("TextError", some "__init__")) (c.t.d.def_ 2 rfl) (fun _ _ _ _ _ _ us hl => match us, hl with | [_, _, _, _], _ => rfl)
  have h_te : HasX P w K mg base 2 (X_te (He.ga K "TextError")) := hasX (oexB_ok (exAt c.more 4 rfl)) (He.eqO_ok (He.ba (exAt c.more 7 rfl)).1) (of_decide_eq_true (He.ba (exAt c.more 7 rfl)).2) (He.glo_ok X G (c.t.d.fact 4 rfl)) (DefK.ok (k := 0) (n := 4) (con := xcon (X_te (He.ga K "TextError"))) D_TextError___init__ sc_TextError___init__ rfl (fun ds M Q X h => w_te (He.ga K "TextError") ds M Q X h) rfl rfl ck_TextError___init__ { fns := all_nil, cs := all_nil, mks := all_nil, mts := all_nil, fls := all_nil, kms := all_nil, xcs := all_nil, pes := (all_cons (peB_ok X G (c.t.d.fact 3 rfl) (exAt c.more 1 rfl)) all_nil), exm := all_nil, xfl := (all_cons ⟨xfB_ok (exAt c.more 2 rfl), He.eqO_ok (exAt c.more 3 rfl), oexB_ok (exAt c.more 4 rfl)⟩ (all_cons ⟨xfB_ok (exAt c.more 2 rfl), He.eqO_ok (exAt c.more 5 rfl), oexB_ok (exAt c.more 4 rfl)⟩ (all_cons ⟨xfB_ok (exAt c.more 2 rfl), He.eqO_ok (exAt c.more 6 rfl), oexB_ok (exAt c.more 4 rfl)⟩ all_nil))), kd := all_nil } all_nil)
  have D_scan : DefK K "scan" "scan" st_scan ["text"] (He.fAd K ("scan", none)) := DefK.of (f := He.fAd K ("scan", none)) (c.t.d.def_ 3 rfl) (fun _ _ _ _ _ _ us hl => match us, hl with | [_], _ => rfl)
  have h_scan : HasF P w K mg base 3 ⟨"scan", 1, C_scan (He.ga K "TextError")⟩ := hasF D_scan (He.glo_ok X G (c.t.d.fact 5 rfl)) (DefK.ok (k := 2) (n := 1) (con := C_scan (He.ga K "TextError")) D_scan sc_scan rfl (fun ds M Q X h => w_scan (He.ga K "TextError") ds M Q X h) rfl rfl ck_scan { fns := (all_cons (h_ce.up) (all_cons (h_we.up) all_nil)), cs := all_nil, mks := all_nil, mts := all_nil, fls := all_nil, kms := all_nil, xcs := (all_cons (h_te.up) all_nil), pes := all_nil, exm := all_nil, xfl := all_nil, kd := all_nil } (all_cons (He.free_ok X G (c.t.d.fact 0 rfl)) all_nil))
  have D_end_of : DefK K "end_of" "end_of" st_end_of ["text"] (He.fAd K ("end_of", none)) := DefK.of (f := He.fAd K ("end_of", none)) (c.t.d.def_ 4 rfl) (fun _ _ _ _ _ _ us hl => match us, hl with | [_], _ => rfl)
  have h_end : HasF P w K mg base 1 ⟨"end_of", 1, C_end⟩ := hasF D_end_of (He.glo_ok X G (c.t.d.fact 6 rfl)) (DefK.ok (k := 0) (n := 1) (con := C_end) D_end_of sc_end_of rfl (fun ds M Q X h => w_end ds M Q X h) rfl rfl ck_end_of { fns := all_nil, cs := all_nil, mks := all_nil, mts := all_nil, fls := all_nil, kms := all_nil, xcs := all_nil, pes := all_nil, exm := all_nil, xfl := all_nil, kd := all_nil } (all_cons (He.free_ok X G (c.t.d.fact 0 rfl)) all_nil))
  have D_law_stream : DefK K "_law_stream" "_law_stream" st_law_stream ["script"] (He.fAd K ("_law_stream", none)) := DefK.of (f := He.fAd K ("_law_stream", none)) (c.t.d.def_ 5 rfl) (fun _ _ _ _ _ _ us hl => match us, hl with | [_], _ => rfl)
  have h_stream : HasF P w K mg base 1 ⟨"_law_stream", 1, C_stream⟩ := hasF D_law_stream (He.glo_ok X G (c.t.d.fact 8 rfl)) (DefK.ok (k := 0) (n := 1) (con := C_stream) D_law_stream sc_law_stream rfl (fun ds M Q X h => w_stream ds M Q X h) rfl rfl ck_law_stream { fns := all_nil, cs := all_nil, mks := all_nil, mts := all_nil, fls := all_nil, kms := all_nil, xcs := all_nil, pes := all_nil, exm := all_nil, xfl := all_nil, kd := all_nil } (all_cons (He.free_ok X G (c.t.d.fact 7 rfl)) all_nil))
  have D_law_next : DefK K "_law_next" "_law_next" st_law_next ["stream", "many"] (He.fAd K ("_law_next", none)) := DefK.of (f := He.fAd K ("_law_next", none)) (c.t.d.def_ 6 rfl) (fun _ _ _ _ _ _ us hl => match us, hl with | [_, _], _ => rfl)
  have h_next : HasF P w K mg base 1 ⟨"_law_next", 2, C_next⟩ := hasF D_law_next (He.glo_ok X G (c.t.d.fact 11 rfl)) (DefK.ok (k := 0) (n := 2) (con := C_next) D_law_next sc_law_next rfl (fun ds M Q X h => w_next ds M Q X h) rfl rfl ck_law_next { fns := all_nil, cs := all_nil, mks := all_nil, mts := all_nil, fls := all_nil, kms := all_nil, xcs := all_nil, pes := all_nil, exm := all_nil, xfl := all_nil, kd := all_nil } (all_cons (He.free_ok X G (c.t.d.fact 10 rfl)) (all_cons (He.free_ok X G (c.t.d.fact 9 rfl)) (all_cons (He.free_ok X G (c.t.d.fact 0 rfl)) all_nil))))
  have D_law_gap : DefK K "_law_gap" "_law_gap" st_law_gap ["stream", "tight"] (He.fAd K ("_law_gap", none)) := DefK.of (f := He.fAd K ("_law_gap", none)) (c.t.d.def_ 7 rfl) (fun _ _ _ _ _ _ us hl => match us, hl with | [_, _], _ => rfl)
  have h_gap : HasF P w K mg base 2 ⟨"_law_gap", 2, C_gap⟩ := hasF D_law_gap (He.glo_ok X G (c.t.d.fact 12 rfl)) (DefK.ok (k := 1) (n := 2) (con := C_gap) D_law_gap sc_law_gap rfl (fun ds M Q X h => w_gap ds M Q X h) rfl rfl ck_law_gap { fns := (all_cons (h_next.up) all_nil), cs := all_nil, mks := all_nil, mts := all_nil, fls := all_nil, kms := all_nil, xcs := all_nil, pes := all_nil, exm := all_nil, xfl := all_nil, kd := all_nil } all_nil)
  have D_law_laid : DefK K "_law_laid" "_law_laid" st_law_laid ["stream", "words"] (He.fAd K ("_law_laid", none)) := DefK.of (f := He.fAd K ("_law_laid", none)) (c.t.d.def_ 8 rfl) (fun _ _ _ _ _ _ us hl => match us, hl with | [_, _], _ => rfl)
  have h_laid : HasF P w K mg base 3 ⟨"_law_laid", 2, C_laid⟩ := hasF D_law_laid (He.glo_ok X G (c.t.d.fact 14 rfl)) (DefK.ok (k := 2) (n := 2) (con := C_laid) D_law_laid sc_law_laid rfl (fun ds M Q X h => w_laid ds M Q X h) rfl rfl ck_law_laid { fns := (all_cons (h_gap.up) (all_cons (h_next.up) all_nil)), cs := all_nil, mks := all_nil, mts := all_nil, fls := all_nil, kms := all_nil, xcs := all_nil, pes := all_nil, exm := all_nil, xfl := all_nil, kd := all_nil } (all_cons (He.free_ok X G (c.t.d.fact 13 rfl)) (all_cons (He.free_ok X G (c.t.d.fact 0 rfl)) all_nil)))
  have D_law_words : DefK K "_law_words" "_law_words" st_law_words ["stream"] (He.fAd K ("_law_words", none)) := DefK.of (f := He.fAd K ("_law_words", none)) (c.t.d.def_ 9 rfl) (fun _ _ _ _ _ _ us hl => match us, hl with | [_], _ => rfl)
  have h_words : HasF P w K mg base 2 ⟨"_law_words", 1, C_words⟩ := hasF D_law_words (He.glo_ok X G (c.t.d.fact 16 rfl)) (DefK.ok (k := 1) (n := 1) (con := C_words) D_law_words sc_law_words rfl (fun ds M Q X h => w_words ds M Q X h) rfl rfl ck_law_words { fns := (all_cons (h_next.up) all_nil), cs := all_nil, mks := all_nil, mts := all_nil, fls := all_nil, kms := all_nil, xcs := all_nil, pes := all_nil, exm := all_nil, xfl := all_nil, kd := all_nil } (all_cons (He.free_ok X G (c.t.d.fact 0 rfl)) (all_cons (He.free_ok X G (c.t.d.fact 15 rfl)) all_nil)))
  have D_law_is_integer : DefK K "_law_is_integer" "_law_is_integer" st_law_is_integer ["actual"] (He.fAd K ("_law_is_integer", none)) := DefK.of (f := He.fAd K ("_law_is_integer", none)) (c.t.d.def_ 10 rfl) (fun _ _ _ _ _ _ us hl => match us, hl with | [_], _ => rfl)
  have h_int : HasF P w K mg base 1 ⟨"_law_is_integer", 1, C_int⟩ := hasF D_law_is_integer (He.glo_ok X G (c.t.d.fact 19 rfl)) (DefK.ok (k := 0) (n := 1) (con := C_int) D_law_is_integer sc_law_is_integer rfl (fun ds M Q X h => w_int ds M Q X h) rfl rfl ck_law_is_integer { fns := all_nil, cs := all_nil, mks := all_nil, mts := all_nil, fls := all_nil, kms := all_nil, xcs := all_nil, pes := all_nil, exm := all_nil, xfl := all_nil, kd := all_nil } (all_cons (He.free_ok X G (c.t.d.fact 18 rfl)) (all_cons (He.free_ok X G (c.t.d.fact 9 rfl)) (all_cons (He.free_ok X G (c.t.d.fact 17 rfl)) all_nil))))
  have D_law_equal : DefK K "_law_equal" "_law_equal" st_law_equal ["actual", "due"] (He.fAd K ("_law_equal", none)) := DefK.of (f := He.fAd K ("_law_equal", none)) (c.t.d.def_ 11 rfl) (fun _ _ _ _ _ _ us hl => match us, hl with | [_, _], _ => rfl)
  have h_eq0 : HasF P w K mg base 1 ⟨"_law_equal", 2, Fal⟩ := hasF D_law_equal (He.glo_ok X G (c.t.d.fact 20 rfl)) (DefK.fal (k := 0) (n := 2) (con := Fal) D_law_equal sc_law_equal (fun _ _ _ _ h => h))
  have h_eq1 : HasF P w K mg base 2 ⟨"_law_equal", 2, eqD 1⟩ := hasF D_law_equal (He.glo_ok X G (c.t.d.fact 20 rfl)) (DefK.ok (k := 1) (n := 2) (con := eqD 1) D_law_equal sc_law_equal rfl (fun ds M Q X h => w_eq 0 ds M Q X h) rfl rfl ck_law_equal { fns := (all_cons (h_int.up) (all_cons (h_eq0.up) all_nil)), cs := all_nil, mks := all_nil, mts := all_nil, fls := all_nil, kms := all_nil, xcs := all_nil, pes := all_nil, exm := all_nil, xfl := all_nil, kd := all_nil } (all_cons (He.free_ok X G (c.t.d.fact 23 rfl)) (all_cons (He.free_ok X G (c.t.d.fact 18 rfl)) (all_cons (He.free_ok X G (c.t.d.fact 9 rfl)) (all_cons (He.free_ok X G (c.t.d.fact 17 rfl)) (all_cons (He.free_ok X G (c.t.d.fact 0 rfl)) (all_cons (He.free_ok X G (c.t.d.fact 7 rfl)) (all_cons (He.free_ok X G (c.t.d.fact 15 rfl)) (all_cons (He.free_ok X G (c.t.d.fact 22 rfl)) (all_cons (He.free_ok X G (c.t.d.fact 21 rfl)) all_nil))))))))))
  have h_eq2 : HasF P w K mg base 3 ⟨"_law_equal", 2, eqD 2⟩ := hasF D_law_equal (He.glo_ok X G (c.t.d.fact 20 rfl)) (DefK.ok (k := 2) (n := 2) (con := eqD 2) D_law_equal sc_law_equal rfl (fun ds M Q X h => w_eq 1 ds M Q X h) rfl rfl ck_law_equal { fns := (all_cons (h_int.up) (all_cons (h_eq1.up) all_nil)), cs := all_nil, mks := all_nil, mts := all_nil, fls := all_nil, kms := all_nil, xcs := all_nil, pes := all_nil, exm := all_nil, xfl := all_nil, kd := all_nil } (all_cons (He.free_ok X G (c.t.d.fact 23 rfl)) (all_cons (He.free_ok X G (c.t.d.fact 18 rfl)) (all_cons (He.free_ok X G (c.t.d.fact 9 rfl)) (all_cons (He.free_ok X G (c.t.d.fact 17 rfl)) (all_cons (He.free_ok X G (c.t.d.fact 0 rfl)) (all_cons (He.free_ok X G (c.t.d.fact 7 rfl)) (all_cons (He.free_ok X G (c.t.d.fact 15 rfl)) (all_cons (He.free_ok X G (c.t.d.fact 22 rfl)) (all_cons (He.free_ok X G (c.t.d.fact 21 rfl)) all_nil))))))))))
  have h_eqT : HasF P w K mg base 4 ⟨"_law_equal", 2, C_eqT⟩ := hasF D_law_equal (He.glo_ok X G (c.t.d.fact 20 rfl)) (DefK.ok (k := 3) (n := 2) (con := C_eqT) D_law_equal sc_law_equal rfl (fun ds M Q X h => w_eqT ds M Q X h) rfl rfl ck_law_equal { fns := (all_cons (h_int.up) (all_cons (h_eq2.up) all_nil)), cs := all_nil, mks := all_nil, mts := all_nil, fls := all_nil, kms := all_nil, xcs := all_nil, pes := all_nil, exm := all_nil, xfl := all_nil, kd := all_nil } (all_cons (He.free_ok X G (c.t.d.fact 23 rfl)) (all_cons (He.free_ok X G (c.t.d.fact 18 rfl)) (all_cons (He.free_ok X G (c.t.d.fact 9 rfl)) (all_cons (He.free_ok X G (c.t.d.fact 17 rfl)) (all_cons (He.free_ok X G (c.t.d.fact 0 rfl)) (all_cons (He.free_ok X G (c.t.d.fact 7 rfl)) (all_cons (He.free_ok X G (c.t.d.fact 15 rfl)) (all_cons (He.free_ok X G (c.t.d.fact 22 rfl)) (all_cons (He.free_ok X G (c.t.d.fact 21 rfl)) all_nil))))))))))
  have h_hint : HasH P w K mg base 1 ⟨"_law_is_integer", 1, C_int⟩ := hasH D_law_is_integer (He.glo_ok X G (c.t.d.fact 19 rfl)) (DefK.okH (k := 0) (n := 1) (con := C_int) D_law_is_integer sc_law_is_integer rfl (fun ds M Q X h => w_hint ds M Q X h) ⟨rfl, rfl, rfl, rfl, rfl⟩ rfl ck_hint { fns := all_nil, cs := all_nil, mks := all_nil, mts := all_nil, fls := all_nil, kms := all_nil, xcs := all_nil, pes := all_nil, exm := all_nil, xfl := all_nil, kd := all_nil } (all_cons (He.free_ok X G (c.t.d.fact 18 rfl)) (all_cons (He.free_ok X G (c.t.d.fact 9 rfl)) (all_cons (He.free_ok X G (c.t.d.fact 17 rfl)) all_nil))))
  have h_hF : HasH P w K mg base 1 ⟨"_law_equal", 2, Fal⟩ := hasH D_law_equal (He.glo_ok X G (c.t.d.fact 20 rfl)) (DefK.falH (k := 0) (n := 2) (con := Fal) D_law_equal sc_law_equal (fun _ _ _ _ h => h))
  have h_h0 : HasH P w K mg base 2 ⟨"_law_equal", 2, H0⟩ := hasH D_law_equal (He.glo_ok X G (c.t.d.fact 20 rfl)) (DefK.okH (k := 1) (n := 2) (con := H0) D_law_equal sc_law_equal rfl (fun ds M Q X h => w_h0 ds M Q X h) ⟨rfl, rfl, rfl, rfl, rfl⟩ rfl ck_heq { fns := all_nil, cs := all_nil, mks := all_nil, mts := all_nil, fls := all_nil, kms := all_nil, xcs := all_nil, pes := all_nil, exm := all_nil, xfl := all_nil, kd := all_nil, hfs := (all_cons (h_hint.up) (all_cons (h_hF.up) all_nil)) } (all_cons (He.free_ok X G (c.t.d.fact 23 rfl)) (all_cons (He.free_ok X G (c.t.d.fact 18 rfl)) (all_cons (He.free_ok X G (c.t.d.fact 9 rfl)) (all_cons (He.free_ok X G (c.t.d.fact 17 rfl)) (all_cons (He.free_ok X G (c.t.d.fact 0 rfl)) (all_cons (He.free_ok X G (c.t.d.fact 7 rfl)) (all_cons (He.free_ok X G (c.t.d.fact 15 rfl)) (all_cons (He.free_ok X G (c.t.d.fact 22 rfl)) (all_cons (He.free_ok X G (c.t.d.fact 21 rfl)) all_nil))))))))))
  have h_h1 : HasH P w K mg base 3 ⟨"_law_equal", 2, H1⟩ := hasH D_law_equal (He.glo_ok X G (c.t.d.fact 20 rfl)) (DefK.okH (k := 2) (n := 2) (con := H1) D_law_equal sc_law_equal rfl (fun ds M Q X h => w_h1 ds M Q X h) ⟨rfl, rfl, rfl, rfl, rfl⟩ rfl ck_heq { fns := all_nil, cs := all_nil, mks := all_nil, mts := all_nil, fls := all_nil, kms := all_nil, xcs := all_nil, pes := all_nil, exm := all_nil, xfl := all_nil, kd := all_nil, hfs := (all_cons (h_hint.up) (all_cons (h_h0.up) all_nil)) } (all_cons (He.free_ok X G (c.t.d.fact 23 rfl)) (all_cons (He.free_ok X G (c.t.d.fact 18 rfl)) (all_cons (He.free_ok X G (c.t.d.fact 9 rfl)) (all_cons (He.free_ok X G (c.t.d.fact 17 rfl)) (all_cons (He.free_ok X G (c.t.d.fact 0 rfl)) (all_cons (He.free_ok X G (c.t.d.fact 7 rfl)) (all_cons (He.free_ok X G (c.t.d.fact 15 rfl)) (all_cons (He.free_ok X G (c.t.d.fact 22 rfl)) (all_cons (He.free_ok X G (c.t.d.fact 21 rfl)) all_nil))))))))))
  have D_law_refused : DefK K "_law_refused" "_law_refused" st_law_refused ["text", "due"] (He.fAd K ("_law_refused", none)) := DefK.of (f := He.fAd K ("_law_refused", none)) (c.t.d.def_ 12 rfl) (fun _ _ _ _ _ _ us hl => match us, hl with | [_, _], _ => rfl)
  have h_rf : HasF P w K mg base 4 ⟨"_law_refused", 2, C_refused⟩ := hasF D_law_refused (He.glo_ok X G (c.t.d.fact 25 rfl)) (DefK.ok (k := 3) (n := 2) (con := C_refused) D_law_refused sc_law_refused rfl (fun ds M Q X h => w_rf (He.ga K "TextError") ds M Q X h) rfl rfl ck_rf { fns := (all_cons (h_scan.up) all_nil), cs := all_nil, mks := all_nil, mts := all_nil, fls := all_nil, kms := all_nil, xcs := (all_cons (h_te.up) all_nil), pes := all_nil, exm := (all_cons (He.exm_ok (c.t.d.fact 24 rfl)) all_nil), xfl := (all_cons ⟨xfB_ok (exAt c.more 2 rfl), He.eqO_ok (exAt c.more 3 rfl), oexB_ok (exAt c.more 4 rfl)⟩ (all_cons ⟨xfB_ok (exAt c.more 2 rfl), He.eqO_ok (exAt c.more 5 rfl), oexB_ok (exAt c.more 4 rfl)⟩ (all_cons ⟨xfB_ok (exAt c.more 2 rfl), He.eqO_ok (exAt c.more 6 rfl), oexB_ok (exAt c.more 4 rfl)⟩ all_nil))), kd := all_nil, hfs := (all_cons (h_h1.up) all_nil) } all_nil)
  obtain ⟨oc, od, dV, kV, doc, pm, an, cdv, ct, osl, e, lk, hcd, _, _⟩ := FL.ex
  exact def_okC (Γ := G_law (He.ga K "TextError")) (k := 4) (n := 1) (con := C_law) (⟨oc, od, dV, kV, doc, pm, an, ct, osl, e, lk, hcd⟩ : FunC K "law" "law" st_law (He.fAd K ("law", none)) fdl cdv) sc_law rfl (fun T hT => nomatch hT) rfl ck_law { fns := (all_cons (h_stream.up) (all_cons (h_words.up) (all_cons (h_laid.up) (all_cons (h_eqT.up) (all_cons (h_scan.up) (all_cons (h_end.up) (all_cons (h_next.up) (all_cons (h_rf.up) all_nil)))))))), cs := all_nil, mks := all_nil, mts := all_nil, fls := all_nil, kms := all_nil, xcs := all_nil, pes := all_nil, exm := all_nil, xfl := all_nil, kd := all_nil } (all_cons (He.free_ok X G (c.t.d.fact 0 rfl)) (all_cons (He.free_ok X G (c.t.d.fact 15 rfl)) (all_cons (He.free_ok X G (c.t.d.fact 26 rfl)) all_nil))) (fun ds M Q X _ h => w_law (He.ga K "TextError") ds M Q X h)
theorem main_ok {w : World} {K : PySem.W.Frag} {mg : Str → Option Value} {h : Heap} {fa : Addr} (X : K.In h) (G : h.Ns mainGlobals mg) (hfa : mg "law" = some (.ref fa)) (c : Fx w h K) :
    LamX.LawAtS PySem.Challenge.rw_sureplan_k85_tokens_and_places w K (L2N.CX (PySem.Challenge.rw_sureplan_k85_tokens_and_places).prog w) 5 63 "script" mg fa h := by
  obtain ⟨fdl, FL⟩ := c.t.d.def_ 13 rfl
  have efa : fa = He.ga K "law" := by
    have e := hfa.symm.trans (He.glo_ok X G (c.t.d.fact 27 rfl))
    injection e with e
    injection e
  subst efa
  refine ⟨fdl, tfL.map (He.cT K), spOf K 1 C_law, fun p hp => ?_, fun p hp => ?_, fun p hp => ?_, fun s u => ?_, fun H a ns _ _ hH hS => ?_, fun base hI hNs TB => ?_⟩
  · exact nomatch hp
  · exact nomatch hp
  · exact nomatch hp
  · exact (FunD.bindsA (ps := ["script"]) FL fun _ _ _ _ _ _ us hl => match us, hl with | [_], _ => rfl) s [u] rfl
  · have hts : ∀ t ∈ (tfL.map (He.cT K)).map (·.2), H t = some (.tbl #[]) := fun t ht => nomatch ht
    refine ⟨_, tabsM ((tfL.map (He.cT K)).map (·.2)), [.lst (ns.map .int)], fun d _ => d = .bl true, fun _ _ _ => False, tabs_sat hts, .cons (.lst (seq_hide hts hS) (.ints ns)) .nil, rfl, ⟨ns, rfl, fun _ => rfl⟩, fun d M' e F' H' v _ r => ?_, fun _ _ _ h => h.elim⟩
    subst e
    cases r
    rfl
  · exact law_fn X G c FL hNs hI
end K85
namespace K85H
open PySem PySem.W PySem.Calls PyProof.Rows
abbrev R : OpenRow := OpenLaw.row PySem.Challenge.rw_sureplan_k85_tokens_and_places
abbrev qv : Program := view R.prog [18]
def names : List PySem.Str := ["PlanError", "TextError", "WORD_CHARACTERS", "comment_end", "word_end", "scan", "end_of", "_law_stream", "_law_next", "_law_is_integer", "_law_equal", "_law_gap", "_law_laid", "_law_words", "_law_refused"]
abbrev hk : PySem.W.Hook := Vp.hookV 6 K85.faL K85.fnL K85.tabF K85.tfL K85.exL
def ob (s : PySem.W.SharedT) : He.AlX := Vp.obsV 6 K85.faL K85.fnL K85.tabF K85.tfL K85.exL (HandSHeadRun.getT s)
theorem ob_eq (s : PySem.W.SharedT) : ob s = hk.obs s.abs := Vp.obsV_eq (HandSHeadRun.getT_eq s)
end K85H
namespace K85H
open PySem PySem.W PySem.Calls PyProof.Rows
theorem runF (w : World) : HandSHeadRun.RunEq R qv hk ob 7000 names (w.withFollow "special-get-raises" false) := by
  intro os
  kernel_rfl
end K85H
namespace K85H
open PySem PySem.W PySem.Calls PyProof.Rows
theorem runT (w : World) : HandSHeadRun.RunEq R qv hk ob 7000 names (w.withFollow "special-get-raises" true) := by
  intro os
  kernel_rfl
end K85H
namespace K85H
open PySem PySem.W PySem.Calls PyProof.Rows
theorem run (w : World) : HandSHeadRun.RunEq R qv hk ob 7000 names w := PySem.W.byRow2 (P := fun w => HandSHeadRun.RunEq R qv hk ob 7000 names w) "special-get-raises" runF runT w
end K85H
open PySem PySem.W PySem.Calls PyProof.Rows
theorem PySem.Challenge.cw_sureplan_k85_tokens_and_places_holds : PySem.Challenge.rw_sureplan_k85_tokens_and_places.Holds := by
  w_on; o_law
  refine HandSHeadRun.head_any (r := OpenLaw.row PySem.Challenge.rw_sureplan_k85_tokens_and_places) (q := view (OpenLaw.row PySem.Challenge.rw_sureplan_k85_tokens_and_places).prog [18]) (H := K85H.hk) (ob := K85H.ob) (M := 7000) (loose := K85H.names) (d := HandSHeadRun.topDef (OpenLaw.row PySem.Challenge.rw_sureplan_k85_tokens_and_places).prog 18) (kwd := []) K85H.ob_eq
    (by kernel_rfl) (fun s => by kernel_rfl) K85H.run (by kernel_rfl) (by kernel_rfl) (by kernel_rfl) (by rfl) (by first | assumption | decide +kernel) (by decide +kernel) ⟨rfl, rfl, rfl, rfl, rfl, by decide +kernel⟩ ?hw ?hc
  case hw => w_witness2
  case hc =>
    refine LamX.walk_ofTsE (l := PySem.Challenge.rw_sureplan_k85_tokens_and_places) (n := 63) (k := 5) (x := "script") (CX := fun w => L2N.CX PySem.Challenge.rw_sureplan_k85_tokens_and_places.prog w) rfl (by decide) (by kernel_rfl) ⟨rfl, by decide, by decide⟩ ?F (fun w H s e s' h => Vp.cx_false h)
    intro w mg fa h Y G hmg0
    obtain ⟨K, KX, c⟩ := Y
    have hmg : mg ("law" : PySem.Str) = some (.ref fa) := by
      have e : (HandSHeadRun.topDef (OpenLaw.row PySem.Challenge.rw_sureplan_k85_tokens_and_places).prog 18).name = ("law" : PySem.Str) := by kernel_rfl
      rw [← e]
      exact hmg0
    exact ⟨K, KX, K85.main_ok KX G hmg c⟩
