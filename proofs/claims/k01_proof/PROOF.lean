import PyProof.Rows.All
import Wide.All
import OpenK.AllK
import Wide.FinOn
import HandS.ForMost
import HandS.Exc
import HandS.ExcOwn
import HandS.TryOnly
import HandS.WordsExc
import HandS.Evl
import HandS.TupAny
import HandS.Steps
import HandS.Property
import HandS.RaiseMore
import HandS.ExcInit
import HandS.ExcField
import HandS.More
import KE.GoesEnum
import HandS.Zip
import HandS.Conv
import KE.KDictPairs
import HandS.IsInst
import HandS.Codes
import HandS.FStr
import PySem.Challenge.RW_lostdesk_k01_catalogs_refused
set_option Elab.async false
set_option linter.all false
set_option maxRecDepth 100000
/-! # Values as plain data, and what a reading makes of them -/
namespace Dv
open PySem L2 Evl

/-- a value of the program as plain data -/
inductive D where
  | non | bl (b : Bool) | int (i : Int) | str (x : Str)
  | lst (xs : List D) | tup (pl : Bool) (xs : List D) | dic (kvs : List (Key × D)) | ins (c : Str) (fs : List (Str × D)) | hnd
  /-- the script: a list of ints that is only read -/
  | rol (ns : List Int)

/-- what is fixed: the written part, and where each class stands -/
structure Bs where
  K : PySem.W.Frag
  ca : Str → Addr

/-- the source of draws: its list's address, its cells' address -/
abbrev Wd := Option (Addr × Addr)

/-- a tuple whose object has no dict of its own -/
def PlT (F : Hp) (p : Addr) (ys : List V) : Prop := ∃ o : Obj, F p = some (.frz o (.tup ys)) ∧ o.dict = none
mutual
def Rep (B : Bs) (w : Wd) (F : Hp) : D → V → Prop
  | .non, v => v = .non
  | .bl b, v => v = .bl b
  | .int i, v => v = .int i
  | .str x, v => v = .str x
  | .lst ds, v => ∃ p xs, v = .ref p ∧ F p = some (.lst xs) ∧ Reps B w F ds xs
  | .rol ns, v => ∃ p, v = .ref p ∧ SqL B.K F p (ns.map V.int)
  | .tup pl ds, v => ∃ p xs, v = .ref p ∧ SqT B.K F p xs ∧ Reps B w F ds xs ∧ (pl = true → PlT F p xs)
  | .dic kvs, v => ∃ p xs, v = .ref p ∧ F p = some (.dK xs) ∧ RepK B w F kvs xs
  | .ins c fs, v => ∃ p dx xs, v = .ref p ∧ F p = some (.ins (B.ca c) dx xs) ∧ RepF B w F fs xs
  | .hnd, v => ∃ ha ca, w = some (ha, ca) ∧ v = .ref ha
def Reps (B : Bs) (w : Wd) (F : Hp) : List D → List V → Prop
  | [], vs => vs = []
  | d :: ds, vs => ∃ v r, vs = v :: r ∧ Rep B w F d v ∧ Reps B w F ds r
def RepK (B : Bs) (w : Wd) (F : Hp) : List (Key × D) → List (Key × V) → Prop
  | [], vs => vs = []
  | (k, d) :: ds, vs => ∃ v r, vs = (k, v) :: r ∧ Rep B w F d v ∧ RepK B w F ds r
def RepF (B : Bs) (w : Wd) (F : Hp) : List (Str × D) → List (Str × V) → Prop
  | [], vs => vs = []
  | (k, d) :: ds, vs => ∃ v r, vs = (k, v) :: r ∧ Rep B w F d v ∧ RepF B w F ds r
end

section
variable {B : Bs} {w : Wd} {F F' : Hp}
mutual
theorem Rep.mono (e : Ex F F') : ∀ {d : D} {v : V}, Rep B w F d v → Rep B w F' d v
  | .non, _, h => by unfold Rep at h ⊢; exact h
  | .bl _, _, h => by unfold Rep at h ⊢; exact h
  | .int _, _, h => by unfold Rep at h ⊢; exact h
  | .str _, _, h => by unfold Rep at h ⊢; exact h
  | .lst ds, _, h => by
    unfold Rep at h ⊢
    obtain ⟨p, xs, e1, e2, e3⟩ := h
    exact ⟨p, xs, e1, e _ _ e2, Reps.mono e e3⟩
  | .rol ns, _, h => by
    unfold Rep at h ⊢
    obtain ⟨p, e1, e2⟩ := h
    exact ⟨p, e1, ex_l e e2⟩
  | .tup pl ds, _, h => by
    unfold Rep at h ⊢
    obtain ⟨p, xs, e1, e2, e3, e4⟩ := h
    exact ⟨p, xs, e1, ex_t e e2, Reps.mono e e3, fun q => let ⟨o, h1, h2⟩ := e4 q; ⟨o, e _ _ h1, h2⟩⟩
  | .dic kvs, _, h => by
    unfold Rep at h ⊢
    obtain ⟨p, xs, e1, e2, e3⟩ := h
    exact ⟨p, xs, e1, e _ _ e2, RepK.mono e e3⟩
  | .ins c fs, _, h => by
    unfold Rep at h ⊢
    obtain ⟨p, dx, xs, e1, e2, e3⟩ := h
    exact ⟨p, dx, xs, e1, e _ _ e2, RepF.mono e e3⟩
  | .hnd, _, h => by unfold Rep at h ⊢; exact h
theorem Reps.mono (e : Ex F F') : ∀ {ds : List D} {vs : List V}, Reps B w F ds vs → Reps B w F' ds vs
  | [], _, h => by unfold Reps at h ⊢; exact h
  | d :: ds, _, h => by
    unfold Reps at h ⊢
    obtain ⟨v, r, e1, e2, e3⟩ := h
    exact ⟨v, r, e1, Rep.mono e e2, Reps.mono e e3⟩
theorem RepK.mono (e : Ex F F') : ∀ {ds : List (Key × D)} {vs : List (Key × V)}, RepK B w F ds vs → RepK B w F' ds vs
  | [], _, h => by unfold RepK at h ⊢; exact h
  | (k, d) :: ds, _, h => by
    unfold RepK at h ⊢
    obtain ⟨v, r, e1, e2, e3⟩ := h
    exact ⟨v, r, e1, Rep.mono e e2, RepK.mono e e3⟩
theorem RepF.mono (e : Ex F F') : ∀ {ds : List (Str × D)} {vs : List (Str × V)}, RepF B w F ds vs → RepF B w F' ds vs
  | [], _, h => by unfold RepF at h ⊢; exact h
  | (k, d) :: ds, _, h => by
    unfold RepF at h ⊢
    obtain ⟨v, r, e1, e2, e3⟩ := h
    exact ⟨v, r, e1, Rep.mono e e2, RepF.mono e e3⟩
end

theorem rep_non {v : V} : Rep B w F .non v ↔ v = .non := by unfold Rep; exact Iff.rfl
theorem rep_bl {b : Bool} {v : V} : Rep B w F (.bl b) v ↔ v = .bl b := by unfold Rep; exact Iff.rfl
theorem rep_int {i : Int} {v : V} : Rep B w F (.int i) v ↔ v = .int i := by unfold Rep; exact Iff.rfl
theorem rep_str {x : Str} {v : V} : Rep B w F (.str x) v ↔ v = .str x := by unfold Rep; exact Iff.rfl
theorem rep_lst {ds : List D} {v : V} : Rep B w F (.lst ds) v ↔ ∃ p xs, v = .ref p ∧ F p = some (.lst xs) ∧ Reps B w F ds xs := by unfold Rep; exact Iff.rfl
theorem rep_rol {ns : List Int} {v : V} : Rep B w F (.rol ns) v ↔ ∃ p, v = .ref p ∧ SqL B.K F p (ns.map V.int) := by unfold Rep; exact Iff.rfl
theorem rep_tupE {pl : Bool} {ds : List D} {v : V} (h : Rep B w F (.tup pl ds) v) : ∃ p xs, v = .ref p ∧ SqT B.K F p xs ∧ Reps B w F ds xs := by
  unfold Rep at h
  obtain ⟨p, xs, e1, e2, e3, _⟩ := h
  exact ⟨p, xs, e1, e2, e3⟩
theorem rep_tupP {ds : List D} {v : V} (h : Rep B w F (.tup true ds) v) : ∃ p xs, v = .ref p ∧ SqT B.K F p xs ∧ Reps B w F ds xs ∧ PlT F p xs := by
  unfold Rep at h
  obtain ⟨p, xs, e1, e2, e3, e4⟩ := h
  exact ⟨p, xs, e1, e2, e3, e4 rfl⟩
theorem rep_tup {ds : List D} {v : V} : Rep B w F (.tup false ds) v ↔ ∃ p xs, v = .ref p ∧ SqT B.K F p xs ∧ Reps B w F ds xs := by
  constructor
  · exact rep_tupE
  · rintro ⟨p, xs, e1, e2, e3⟩
    unfold Rep
    exact ⟨p, xs, e1, e2, e3, fun q => nomatch q⟩
theorem rep_tupN {pl : Bool} {ds : List D} {p : Addr} {o : Obj} {ys : List V} (h1 : F p = some (.frz o (.tup ys))) (h2 : o.dict = none) (h3 : Reps B w F ds ys) : Rep B w F (.tup pl ds) (.ref p) := by
  unfold Rep
  exact ⟨p, ys, rfl, .inl (.inr ⟨o, h1⟩), h3, fun _ => ⟨o, h1, h2⟩⟩
theorem rep_dic {ds : List (Key × D)} {v : V} : Rep B w F (.dic ds) v ↔ ∃ p xs, v = .ref p ∧ F p = some (.dK xs) ∧ RepK B w F ds xs := by unfold Rep; exact Iff.rfl
theorem rep_ins {c : Str} {fs : List (Str × D)} {v : V} : Rep B w F (.ins c fs) v ↔ ∃ p dx xs, v = .ref p ∧ F p = some (.ins (B.ca c) dx xs) ∧ RepF B w F fs xs := by unfold Rep; exact Iff.rfl
theorem rep_hnd {v : V} : Rep B w F .hnd v ↔ ∃ ha ca, w = some (ha, ca) ∧ v = .ref ha := by unfold Rep; exact Iff.rfl
theorem reps_nil {vs : List V} : Reps B w F [] vs ↔ vs = [] := by unfold Reps; exact Iff.rfl
theorem reps_cons {d : D} {ds : List D} {vs : List V} : Reps B w F (d :: ds) vs ↔ ∃ v r, vs = v :: r ∧ Rep B w F d v ∧ Reps B w F ds r := by
  constructor
  · intro h; unfold Reps at h; exact h
  · intro h; unfold Reps; exact h
theorem repK_nil {vs : List (Key × V)} : RepK B w F [] vs ↔ vs = [] := by unfold RepK; exact Iff.rfl
theorem repK_cons {k : Key} {d : D} {ds : List (Key × D)} {vs : List (Key × V)} : RepK B w F ((k, d) :: ds) vs ↔ ∃ v r, vs = (k, v) :: r ∧ Rep B w F d v ∧ RepK B w F ds r := by
  constructor
  · intro h; unfold RepK at h; exact h
  · intro h; unfold RepK; exact h
theorem repF_nil {vs : List (Str × V)} : RepF B w F [] vs ↔ vs = [] := by unfold RepF; exact Iff.rfl
theorem repF_cons {k : Str} {d : D} {ds : List (Str × D)} {vs : List (Str × V)} : RepF B w F ((k, d) :: ds) vs ↔ ∃ v r, vs = (k, v) :: r ∧ Rep B w F d v ∧ RepF B w F ds r := by
  constructor
  · intro h; unfold RepF at h; exact h
  · intro h; unfold RepF; exact h
theorem Reps.length : ∀ {ds : List D} {vs : List V}, Reps B w F ds vs → vs.length = ds.length
  | [], _, h => by rw [reps_nil.mp h]; rfl
  | d :: ds, _, h => by
    obtain ⟨v, r, e, _, h2⟩ := reps_cons.mp h
    rw [e, List.length_cons, List.length_cons, h2.length]
theorem Reps.get : ∀ {ds : List D} {vs : List V} {i : Nat} {d : D}, Reps B w F ds vs → ds[i]? = some d → ∃ v, vs[i]? = some v ∧ Rep B w F d v
  | [], _, _, _, _, h => by simp at h
  | d :: ds, _, 0, d', h, e => by
    obtain ⟨v, r, e1, h1, _⟩ := reps_cons.mp h
    simp at e
    subst e e1
    exact ⟨v, rfl, h1⟩
  | d :: ds, _, i + 1, d', h, e => by
    obtain ⟨v, r, e1, _, h2⟩ := reps_cons.mp h
    obtain ⟨u, h3, h4⟩ := h2.get (i := i) (d := d') (by simpa using e)
    subst e1
    exact ⟨u, by simpa using h3, h4⟩
theorem Reps.getV {ds : List D} {vs : List V} {i : Nat} {v : V} (h : Reps B w F ds vs) (e : vs[i]? = some v) : ∃ d, ds[i]? = some d ∧ Rep B w F d v := by
  have hl := h.length
  obtain ⟨hi, _⟩ := List.getElem?_eq_some_iff.mp e
  have hi2 : i < ds.length := by omega
  obtain ⟨u, h1, h2⟩ := h.get (List.getElem?_eq_getElem hi2)
  rw [e] at h1
  cases h1
  exact ⟨_, List.getElem?_eq_getElem hi2, h2⟩
theorem Reps.append : ∀ {ds es : List D} {vs us : List V}, Reps B w F ds vs → Reps B w F es us → Reps B w F (ds ++ es) (vs ++ us)
  | [], _, _, _, h, g => by rw [reps_nil.mp h]; exact g
  | d :: ds, es, _, us, h, g => by
    obtain ⟨v, r, e1, h1, h2⟩ := reps_cons.mp h
    subst e1
    exact reps_cons.mpr ⟨v, r ++ us, rfl, h1, h2.append g⟩
theorem Reps.snoc {ds : List D} {d : D} {vs : List V} {v : V} (h : Reps B w F ds vs) (g : Rep B w F d v) : Reps B w F (ds ++ [d]) (vs ++ [v]) :=
  h.append (reps_cons.mpr ⟨v, [], rfl, g, reps_nil.mpr rfl⟩)
theorem reps_ints : ∀ {ns : List Int}, Reps B w F (ns.map D.int) (ns.map V.int)
  | [] => reps_nil.mpr rfl
  | n :: ns => reps_cons.mpr ⟨.int n, _, rfl, rep_int.mpr rfl, reps_ints⟩
/-- the two lists by their items -/
theorem reps_of : ∀ {ds : List D} {vs : List V}, vs.length = ds.length → (∀ (i : Nat) (d : D) (v : V), ds[i]? = some d → vs[i]? = some v → Rep B w F d v) → Reps B w F ds vs
  | [], vs, hl, _ => reps_nil.mpr (List.eq_nil_of_length_eq_zero hl)
  | d :: ds, [], hl, _ => by simp at hl
  | d :: ds, v :: vs, hl, h => reps_cons.mpr ⟨v, vs, rfl, h 0 d v rfl rfl, reps_of (by simpa using hl) fun i d' v' h1 h2 => h (i + 1) d' v' (by simpa using h1) (by simpa using h2)⟩
end

/-! ### the state, and what a step leaves as it was -/
structure HS where
  st : Int
  cells : List Int
  ix : Int

def StAt (w : Wd) (s : HS) (F H : Hp) : Prop := match w with
  | none => True
  | some (ha, ca) => ha ≠ ca ∧ F ha = none ∧ F ca = none ∧ H ha = some (.lst [.int s.st, .ref ca, .int s.ix]) ∧ H ca = some (.lst (s.cells.map V.int))
def Off (w : Wd) (a : Addr) : Prop := match w with
  | none => True
  | some (ha, ca) => a ≠ ha ∧ a ≠ ca

structure Step (w : Wd) (F H F' H' : Hp) : Prop where
  ff : Ex F F'
  fh : Ex F' H'
  rest : ∀ a o, H a = some o → F a = none → Off w a → F' a = none ∧ H' a = some o

section
variable {w : Wd} {s s' : HS} {F H F1 H1 F2 H2 : Hp}
theorem Step.refl (e : Ex F H) : Step w F H F H := ⟨Ex.refl F, e, fun _ _ h1 h2 _ => ⟨h2, h1⟩⟩
theorem Step.trans (a : Step w F H F1 H1) (b : Step w F1 H1 F2 H2) : Step w F H F2 H2 :=
  ⟨a.ff.trans b.ff, b.fh, fun x o h1 h2 h3 => let ⟨h4, h5⟩ := a.rest x o h1 h2 h3; b.rest x o h5 h4 h3⟩
/-- a new object, frozen at once -/
theorem Step.new {p : Addr} {o : HO} (e : Ex F H) (hp : H p = none) : Step w F H (upd F p o) (upd H p o) := by
  have hf : F p = none := fresh_back e hp
  refine ⟨Ex.new hf, fun a u ha => ?_, fun a u h1 h2 _ => ?_⟩
  · by_cases ap : a = p
    · subst ap; rw [upd_same] at ha ⊢; exact ha
    · rw [upd_ne ap] at ha ⊢; exact e a u ha
  · have ap : a ≠ p := ne_of_none h1 hp
    rw [upd_ne ap, upd_ne ap]
    exact ⟨h2, h1⟩
/-- a new object that is not frozen -/
theorem Step.newO {p : Addr} {o : HO} (e : Ex F H) (hp : H p = none) : Step w F H F (upd H p o) := by
  refine ⟨Ex.refl F, fun a u ha => ?_, fun a u h1 h2 _ => ?_⟩
  · rw [upd_ne (ne_of_none (e a u ha) hp)]; exact e a u ha
  · have ap : a ≠ p := ne_of_none h1 hp
    rw [upd_ne ap]
    exact ⟨h2, h1⟩
theorem StAt.new {p : Addr} {o : HO} (h : StAt w s F H) (hp : H p = none) : StAt w s (upd F p o) (upd H p o) := by
  unfold StAt at h ⊢
  cases w with
  | none => trivial
  | some q =>
    obtain ⟨ha, ca⟩ := q
    obtain ⟨h1, h2, h3, h4, h5⟩ := h
    have n1 : ha ≠ p := ne_of_none h4 hp
    have n2 : ca ≠ p := ne_of_none h5 hp
    refine ⟨h1, ?_, ?_, ?_, ?_⟩
    · rw [upd_ne n1]; exact h2
    · rw [upd_ne n2]; exact h3
    · rw [upd_ne n1]; exact h4
    · rw [upd_ne n2]; exact h5
theorem StAt.newO {p : Addr} {o : HO} (h : StAt w s F H) (hp : H p = none) : StAt w s F (upd H p o) := by
  unfold StAt at h ⊢
  cases w with
  | none => trivial
  | some q =>
    obtain ⟨ha, ca⟩ := q
    obtain ⟨h1, h2, h3, h4, h5⟩ := h
    refine ⟨h1, h2, h3, ?_, ?_⟩
    · rw [upd_ne (ne_of_none h4 hp)]; exact h4
    · rw [upd_ne (ne_of_none h5 hp)]; exact h5
theorem Step.fresh (a : Step w F H F1 H1) (h0 : Ex F H) (st : StAt w s' F1 H1) {p : Addr} (hp : H1 p = none) : H p = none := by
  cases q : H p with
  | none => rfl
  | some o =>
    cases f : F p with
    | some u =>
      have := a.fh p u (a.ff p u f)
      rw [hp] at this; cases this
    | none =>
      by_cases ho : Off w p
      · rw [(a.rest p o q f ho).2] at hp; cases hp
      · unfold Off at ho
        unfold StAt at st
        cases w with
        | none => exact absurd trivial ho
        | some z =>
          obtain ⟨ha, ca⟩ := z
          obtain ⟨_, _, _, h4, h5⟩ := st
          by_cases e1 : p = ha
          · rw [e1, h4] at hp; cases hp
          · by_cases e2 : p = ca
            · rw [e2, h5] at hp; cases hp
            · exact absurd ⟨e1, e2⟩ ho
end

/-! ### slots -/
inductive Sl where
  | no | fr (d : D) | lo (ds : List D) | dco (kvs : List (Key × D)) | io (c : Str) (fs : List (Str × D))

def SlAt (B : Bs) (w : Wd) (F H : Hp) : Sl → Option V → Prop
  | .no, _ => True
  | .fr d, v => ∃ x, v = some x ∧ Rep B w F d x
  | .lo ds, v => ∃ p xs, v = some (.ref p) ∧ F p = none ∧ Off w p ∧ H p = some (.lst xs) ∧ Reps B w F ds xs
  | .dco kvs, v => ∃ p xs, v = some (.ref p) ∧ F p = none ∧ Off w p ∧ H p = some (.dK xs) ∧ RepK B w F kvs xs
  | .io c fs, v => ∃ p dx xs, v = some (.ref p) ∧ F p = none ∧ Off w p ∧ H p = some (.ins (B.ca c) dx xs) ∧ RepF B w F fs xs
def owned : Sl → Bool
  | .no => false
  | .fr _ => false
  | .lo _ => true
  | .dco _ => true
  | .io _ _ => true
theorem SlAt.step {B : Bs} {w : Wd} {F H F' H' : Hp} {t : Sl} {v : Option V} (h : SlAt B w F H t v) (a : Step w F H F' H') : SlAt B w F' H' t v := by
  cases t with
  | no => trivial
  | fr d => obtain ⟨x, e, r⟩ := h; exact ⟨x, e, r.mono a.ff⟩
  | lo ds =>
    obtain ⟨p, xs, e, h1, h2, h3, r⟩ := h
    obtain ⟨h4, h5⟩ := a.rest p _ h3 h1 h2
    exact ⟨p, xs, e, h4, h2, h5, r.mono a.ff⟩
  | dco ds =>
    obtain ⟨p, xs, e, h1, h2, h3, r⟩ := h
    obtain ⟨h4, h5⟩ := a.rest p _ h3 h1 h2
    exact ⟨p, xs, e, h4, h2, h5, r.mono a.ff⟩
  | io c fs =>
    obtain ⟨p, dx, xs, e, h1, h2, h3, r⟩ := h
    obtain ⟨h4, h5⟩ := a.rest p _ h3 h1 h2
    exact ⟨p, dx, xs, e, h4, h2, h5, r.mono a.ff⟩

abbrev Gm := List Sl
def SlsAt (B : Bs) (w : Wd) (F H : Hp) (Γ : Gm) (σ : L2.St) : Prop := ∀ (i : Nat) (t : Sl), Γ[i]? = some t → ∃ v, σ[i]? = some v ∧ SlAt B w F H t v
theorem SlsAt.step {B : Bs} {w : Wd} {F H F' H' : Hp} {Γ : Gm} {σ : L2.St} (h : SlsAt B w F H Γ σ) (a : Step w F H F' H') : SlsAt B w F' H' Γ σ := fun i t e =>
  let ⟨v, h1, h2⟩ := h i t e; ⟨v, h1, h2.step a⟩

/-! ### results -/
inductive Res where
  | ret (d : D) (s : HS) | exc (c : Str) (fs : List (Str × D)) (s : HS) | stuck
def Res.bind (r : Res) (k : D → HS → Res) : Res := match r with
  | .ret d s => k d s
  | .exc c fs s => .exc c fs s
  | .stuck => .stuck

/-- an exception's own dict: none for a class without fields -/
def ExAt (B : Bs) (w : Wd) (F : Hp) (fs : List (Str × D)) (od : Option Addr) : Prop := match fs with
  | [] => od = none
  | f :: fs => ∃ dd xs, od = some dd ∧ F dd = some (.xd xs) ∧ RepF B w F (f :: fs) xs
theorem ExAt.mono {B : Bs} {w : Wd} {F F' : Hp} {fs : List (Str × D)} {od : Option Addr} (e : Ex F F') (h : ExAt B w F fs od) : ExAt B w F' fs od := by
  cases fs with
  | nil => exact h
  | cons f fs => obtain ⟨dd, xs, h1, h2, h3⟩ := h; exact ⟨dd, xs, h1, e _ _ h2, h3.mono e⟩

/-- a reading ends as r says, and P holds then -/
def OkP (B : Bs) (w : Wd) (F H : Hp) (σ : L2.St) (Wx : WX) (P : D → V → Hp → Hp → Prop) (t : VK → Prop) (r : Res) : Prop := match r with
  | .ret d s' => ∀ Q : VK, (∀ v F' H', Step w F H F' H' → StAt w s' F' H' → P d v F' H' → Q v H') → t Q
  | .exc c fs s' => (∀ od F' H', Step w F H F' H' → StAt w s' F' H' → ExAt B w F' fs od → Wx (.ref (B.ca c)) od σ H') → ∀ Q : VK, t Q
  | .stuck => True
abbrev OkE (B : Bs) (w : Wd) (F H : Hp) (σ : L2.St) (Wx : WX) (t : VK → Prop) (r : Res) : Prop := OkP B w F H σ Wx (fun d v F' _ => Rep B w F' d v) t r
theorem OkP.seq {B : Bs} {w : Wd} {F H : Hp} {σ : L2.St} {Wx : WX} {P1 P2 : D → V → Hp → Hp → Prop} {ta : VK → Prop} {u : V → Hp → VK → Prop} {ra : Res} {k : D → HS → Res} (ha : OkP B w F H σ Wx P1 ta ra)
    (hu : ∀ d s1 v F1 H1, ra = .ret d s1 → Step w F H F1 H1 → StAt w s1 F1 H1 → P1 d v F1 H1 → OkP B w F1 H1 σ Wx P2 (u v H1) (k d s1)) :
    OkP B w F H σ Wx P2 (fun Q => ta (fun x H1 => u x H1 Q)) (ra.bind k) := by
  cases ra with
  | stuck => trivial
  | exc c fs s' => exact fun hx Q => ha hx _
  | ret d s1 =>
    show OkP B w F H σ Wx P2 (fun Q => ta (fun x H1 => u x H1 Q)) (k d s1)
    have hk := fun v F1 H1 a b c => hu d s1 v F1 H1 rfl a b c
    cases h2 : k d s1 with
    | stuck => trivial
    | exc c fs s2 =>
      intro hx Q
      refine ha _ fun v F1 H1 a b c => ?_
      have z := hk v F1 H1 a b c
      rw [h2] at z
      exact z (fun od F2 H2 a2 b2 c2 => hx od F2 H2 (a.trans a2) b2 c2) Q
    | ret d2 s2 =>
      intro Q q
      refine ha _ fun v F1 H1 a b c => ?_
      have z := hk v F1 H1 a b c
      rw [h2] at z
      exact z Q fun v2 F2 H2 a2 b2 c2 => q v2 F2 H2 (a.trans a2) b2 c2
theorem OkP.post {B : Bs} {w : Wd} {F H : Hp} {σ : L2.St} {Wx : WX} {P1 P2 : D → V → Hp → Hp → Prop} {t : VK → Prop} {r : Res} (h : OkP B w F H σ Wx P1 t r) (i : ∀ d v F' H', Step w F H F' H' → P1 d v F' H' → P2 d v F' H') : OkP B w F H σ Wx P2 t r := by
  cases r with
  | stuck => trivial
  | exc c fs s' => exact h
  | ret d s' => exact fun Q q => h Q fun v F' H' a b c => q v F' H' a b (i d v F' H' a c)
section
variable {B : Bs} {w : Wd} {F H : Hp} {σ : L2.St} {Wx : WX}
theorem OkE.seq {ta : VK → Prop} {u : V → Hp → VK → Prop} {ra : Res} {k : D → HS → Res} (ha : OkE B w F H σ Wx ta ra)
    (hu : ∀ d s1 v F1 H1, ra = .ret d s1 → Step w F H F1 H1 → StAt w s1 F1 H1 → Rep B w F1 d v → OkE B w F1 H1 σ Wx (u v H1) (k d s1)) :
    OkE B w F H σ Wx (fun Q => ta (fun x H1 => u x H1 Q)) (ra.bind k) := OkP.seq ha hu
theorem OkE.pure {s : HS} {d : D} {v : V} (e : Ex F H) (st : StAt w s F H) (r : Rep B w F d v) : OkE B w F H σ Wx (fun Q => Q v H) (.ret d s) := fun _ q => q v F H (Step.refl e) st r
theorem OkP.imp {P : D → V → Hp → Hp → Prop} {t t' : VK → Prop} {r : Res} (h : OkP B w F H σ Wx P t r) (i : ∀ Q, t Q → t' Q) : OkP B w F H σ Wx P t' r := by
  cases r with
  | stuck => trivial
  | exc c fs s' => exact fun hx Q => i Q (h hx Q)
  | ret d s' => exact fun Q q => i Q (h Q q)
theorem OkE.imp' {t t' : VK → Prop} {r r' : Res} (h : OkE B w F H σ Wx t r) (er : r = r') (i : ∀ Q, t Q → t' Q) : OkE B w F H σ Wx t' r' := by
  subst er
  cases r with
  | stuck => trivial
  | exc c fs s' => exact fun hx Q => i Q (h hx Q)
  | ret d s' => exact fun Q q => i Q (h Q q)
theorem OkE.imp {t t' : VK → Prop} {r : Res} (h : OkE B w F H σ Wx t r) (i : ∀ Q, t Q → t' Q) : OkE B w F H σ Wx t' r := by
  cases r with
  | stuck => trivial
  | exc c fs s' => exact fun hx Q => i Q (h hx Q)
  | ret d s' => exact fun Q q => i Q (h Q q)
end

/-! ### expressions -/
structure XE (B : Bs) where
  te : WX → TE
  ev : Gm → HS → Res
  ok : ∀ {w : Wd} {F H : Hp} {σ : L2.St} {Γ : Gm} {s : HS} (Wx : WX), Ex F H → StAt w s F H → SlsAt B w F H Γ σ → OkE B w F H σ Wx (te Wx σ H) (ev Γ s)
/-- several, from the left -/
def tas {B : Bs} (Wx : WX) : List (XE B) → TA
  | [] => tNil
  | p :: ps => tCons (p.te Wx) (tas Wx ps)
def evs {B : Bs} (Γ : Gm) : List (XE B) → HS → (List D → HS → Res) → Res
  | [], s, k => k [] s
  | p :: ps, s, k => (p.ev Γ s).bind fun d s1 => evs Γ ps s1 fun ds s2 => k (d :: ds) s2
theorem evs_okP {B : Bs} {w : Wd} {σ : L2.St} {Γ : Gm} (Wx : WX) {P : D → V → Hp → Hp → Prop} : ∀ (ps : List (XE B)) {F H : Hp} {s : HS} {k : List D → HS → Res} {u : List V → Hp → VK → Prop}, Ex F H → StAt w s F H → SlsAt B w F H Γ σ →
    (∀ ds s1 vs F1 H1, Step w F H F1 H1 → StAt w s1 F1 H1 → Reps B w F1 ds vs → ds.length = ps.length → OkP B w F1 H1 σ Wx P (u vs H1) (k ds s1)) → OkP B w F H σ Wx P (fun Q => tas Wx ps σ H (fun vs H1 => u vs H1 Q)) (evs Γ ps s k)
  | [], F, H, s, k, u, e, st, sl, hk => hk [] s [] F H (Step.refl e) st (reps_nil.mpr rfl) rfl
  | p :: ps, F, H, s, k, u, e, st, sl, hk => by
    refine OkP.seq (p.ok Wx e st sl) (u := fun x H1 Q => tas Wx ps σ H1 (fun xs H2 => u (x :: xs) H2 Q)) fun d s1 v F1 H1 _ a st1 r1 => ?_
    refine evs_okP Wx ps (u := fun xs H2 Q => u (v :: xs) H2 Q) a.fh st1 (sl.step a) fun ds s2 vs F2 H2 a2 st2 r2 hl => ?_
    exact hk (d :: ds) s2 (v :: vs) F2 H2 (a.trans a2) st2 (reps_cons.mpr ⟨v, vs, rfl, r1.mono a2.ff, r2⟩) (by simp [hl])
theorem evs_ok {B : Bs} {w : Wd} {σ : L2.St} {Γ : Gm} (Wx : WX) (ps : List (XE B)) {F H : Hp} {s : HS} {k : List D → HS → Res} {u : List V → Hp → VK → Prop} (e : Ex F H) (st : StAt w s F H) (sl : SlsAt B w F H Γ σ)
    (hk : ∀ ds s1 vs F1 H1, Step w F H F1 H1 → StAt w s1 F1 H1 → Reps B w F1 ds vs → ds.length = ps.length → OkE B w F1 H1 σ Wx (u vs H1) (k ds s1)) : OkE B w F H σ Wx (fun Q => tas Wx ps σ H (fun vs H1 => u vs H1 Q)) (evs Γ ps s k) := evs_okP Wx ps e st sl hk

def Sl.get : Option Sl → HS → Res
  | some (.fr d), s => .ret d s
  | _, _ => .stuck
/-- a name -/
def XE.var (B : Bs) (i : Nat) : XE B where
  te := fun _ => tVar i
  ev := fun Γ s => Sl.get Γ[i]? s
  ok := fun {w F H σ Γ s} Wx e st sl => by
    cases h : Γ[i]? with
    | none => trivial
    | some t =>
      cases t with
      | fr d =>
        obtain ⟨v, h1, x, h2, r⟩ := sl i _ h
        subst h2
        intro Q q
        exact ⟨x, h1, q x F H (Step.refl e) st r⟩
      | _ => trivial
/-- a value without objects -/
def XE.cst (B : Bs) (d : D) (v : V) (h : ∀ w F, Rep B w F d v) : XE B where
  te := fun _ => tC v
  ev := fun _ s => .ret d s
  ok := fun {w F H σ Γ s} Wx e st sl => OkE.pure e st (h w F)
abbrev XE.int (B : Bs) (i : Int) : XE B := .cst B (.int i) (.int i) fun _ _ => rep_int.mpr rfl
abbrev XE.bl (B : Bs) (b : Bool) : XE B := .cst B (.bl b) (.bl b) fun _ _ => rep_bl.mpr rfl
abbrev XE.str (B : Bs) (x : Str) : XE B := .cst B (.str x) (.str x) fun _ _ => rep_str.mpr rfl
abbrev XE.non (B : Bs) : XE B := .cst B .non .non fun _ _ => rep_non.mpr rfl

/-- operations by values: what becomes of the data where f tells it -/
abbrev Keeps (w : Wd) (F H F' H' : Hp) : Prop := ∀ s, StAt w s F H → StAt w s F' H'
def OkV (B : Bs) (w : Wd) (F H : Hp) (t : VK → Prop) (o : Option D) : Prop := ∀ z, o = some z → ∀ Q : VK, (∀ v F' H', Step w F H F' H' → Keeps w F H F' H' → Rep B w F' z v → Q v H') → t Q
structure O2 (B : Bs) where
  r : R2
  f : D → D → Option D
  ok : ∀ {w : Wd} {F H : Hp} {x y : V} {d e : D}, Ex F H → Rep B w F d x → Rep B w F e y → OkV B w F H (r x y H) (f d e)
structure O1 (B : Bs) where
  r : V → Hp → VK → Prop
  f : D → Option D
  ok : ∀ {w : Wd} {F H : Hp} {x : V} {d : D}, Ex F H → Rep B w F d x → OkV B w F H (r x H) (f d)
structure OC (B : Bs) where
  r : List V → Hp → VK → Prop
  f : List D → Option D
  ok : ∀ {w : Wd} {F H : Hp} {xs : List V} {ds : List D}, Ex F H → Reps B w F ds xs → OkV B w F H (r xs H) (f ds)
def Res.opt (o : Option D) (s : HS) : Res := match o with
  | some d => .ret d s
  | none => .stuck
theorem OkV.toE {B : Bs} {w : Wd} {F H : Hp} {σ : L2.St} {Wx : WX} {t : VK → Prop} {o : Option D} {s : HS} (st : StAt w s F H) (h : OkV B w F H t o) : OkE B w F H σ Wx t (Res.opt o s) := by
  cases o with
  | none => trivial
  | some z => exact fun Q q => h z rfl Q fun v F' H' a b c => q v F' H' a (b s st) c
theorem OkV.pure {B : Bs} {w : Wd} {F H : Hp} {d : D} {v : V} (e : Ex F H) (r : Rep B w F d v) : OkV B w F H (fun Q => Q v H) (some d) := fun z h Q q => by
  cases h
  exact q v F H (Step.refl e) (fun _ x => x) r
theorem OkV.imp {B : Bs} {w : Wd} {F H : Hp} {t t' : VK → Prop} {o : Option D} (h : OkV B w F H t o) (i : ∀ Q, t Q → t' Q) : OkV B w F H t' o := fun z e Q q => i Q (h z e Q q)
/-- a new object -/
theorem OkV.new {B : Bs} {w : Wd} {F H : Hp} {d : D} {o : HO} (e : Ex F H) (r : ∀ p, F p = none → Rep B w (upd F p o) d (.ref p)) : OkV B w F H (fun Q => ∀ p, H p = none → Q (.ref p) (upd H p o)) (some d) := fun z h Q q p hp => by
  cases h
  exact q (.ref p) (upd F p o) (upd H p o) (Step.new e hp) (fun s st => st.new hp) (r p (fresh_back e hp))
def O2.or {B : Bs} (a b : O2 B) : O2 B where
  r := fun x y H Q => a.r x y H Q ∨ b.r x y H Q
  f := fun d e => match a.f d e with
    | some z => some z
    | none => b.f d e
  ok := fun {w F H x y d e} h r1 r2 z hz Q q => by
    cases h1 : a.f d e with
    | some u => rw [h1] at hz; exact .inl (a.ok h r1 r2 z (by rw [h1]; exact hz) Q q)
    | none => rw [h1] at hz; exact .inr (b.ok h r1 r2 z hz Q q)
def O1.or {B : Bs} (a b : O1 B) : O1 B where
  r := fun x H Q => a.r x H Q ∨ b.r x H Q
  f := fun d => match a.f d with
    | some z => some z
    | none => b.f d
  ok := fun {w F H x d} h r1 z hz Q q => by
    cases h1 : a.f d with
    | some u => rw [h1] at hz; exact .inl (a.ok h r1 z (by rw [h1]; exact hz) Q q)
    | none => rw [h1] at hz; exact .inr (b.ok h r1 z hz Q q)
def OC.or {B : Bs} (a b : OC B) : OC B where
  r := fun x H Q => a.r x H Q ∨ b.r x H Q
  f := fun d => match a.f d with
    | some z => some z
    | none => b.f d
  ok := fun {w F H x d} h r1 z hz Q q => by
    cases h1 : a.f d with
    | some u => rw [h1] at hz; exact .inl (a.ok h r1 z (by rw [h1]; exact hz) Q q)
    | none => rw [h1] at hz; exact .inr (b.ok h r1 z hz Q q)
def XE.op2 {B : Bs} (o : O2 B) (a b : XE B) : XE B where
  te := fun Wx => tOp o.r (a.te Wx) (b.te Wx)
  ev := fun Γ s => (a.ev Γ s).bind fun d s1 => (b.ev Γ s1).bind fun e s2 => Res.opt (o.f d e) s2
  ok := fun {w F H σ Γ s} Wx e st sl => by
    refine (a.ok Wx e st sl).seq (u := fun x H1 Q => (b.te Wx) σ H1 fun y H2 => o.r x y H2 Q) fun d s1 v F1 H1 _ a1 st1 r1 => ?_
    refine (b.ok Wx a1.fh st1 (sl.step a1)).seq (u := fun y H2 Q => o.r v y H2 Q) fun d2 s2 v2 F2 H2 _ a2 st2 r2 => ?_
    exact (o.ok a2.fh (r1.mono a2.ff) r2).toE st2
/-- r1 (a, b) and r2 (b, c), each operand once -/
def XE.chain {B : Bs} (o o' : O2 B) (a b c : XE B) : XE B where
  te := fun Wx => tChain o.r o'.r (a.te Wx) (b.te Wx) (c.te Wx)
  ev := fun Γ s => (a.ev Γ s).bind fun d s1 => (b.ev Γ s1).bind fun e s2 => match o.f d e with
    | some (.bl true) => (c.ev Γ s2).bind fun g s3 => match o'.f e g with
      | some (.bl t) => .ret (.bl t) s3
      | _ => .stuck
    | some (.bl false) => .ret (.bl false) s2
    | _ => .stuck
  ok := fun {w F H σ Γ s} Wx e st sl => by
    refine (a.ok Wx e st sl).seq (u := fun x H1 Q => (b.te Wx) σ H1 fun y H2 => o.r x y H2 fun z H3 => ∃ k, z = .bl k ∧ (if k = true then (c.te Wx) σ H3 fun w' H4 => o'.r y w' H4 Q else Q (.bl false) H3)) fun d s1 v F1 H1 _ a1 st1 r1 => ?_
    refine (b.ok Wx a1.fh st1 (sl.step a1)).seq (u := fun y H2 Q => o.r v y H2 fun z H3 => ∃ k, z = .bl k ∧ (if k = true then (c.te Wx) σ H3 fun w' H4 => o'.r y w' H4 Q else Q (.bl false) H3)) fun e2 s2 v2 F2 H2 _ a2 st2 r2 => ?_
    have ho := o.ok a2.fh (r1.mono a2.ff) r2
    cases hf : o.f d e2 with
    | none => trivial
    | some z =>
      rw [hf] at ho
      have hz := (ho.toE (σ := σ) (Wx := Wx) st2)
      cases z with
      | bl k =>
        cases k with
        | true =>
          refine (hz.seq (u := fun z H3 Q => ∃ k, z = .bl k ∧ (if k = true then (c.te Wx) σ H3 fun w' H4 => o'.r v2 w' H4 Q else Q (.bl false) H3))
            (k := fun _ s2 => (c.ev Γ s2).bind fun g s3 => match o'.f e2 g with
              | some (.bl t) => .ret (.bl t) s3
              | _ => .stuck) fun d3 s3 v3 F3 H3 he a3 st3 r3 => ?_)
          cases he
          refine OkE.imp ?_ fun Q q => ⟨true, rep_bl.mp r3, (if_pos rfl).mpr q⟩
          refine (c.ok Wx a3.fh st3 (((sl.step a1).step a2).step a3)).seq (u := fun w' H4 Q => o'.r v2 w' H4 Q) fun g s4 v4 F4 H4 _ a4 st4 r4 => ?_
          have h5 := o'.ok a4.fh ((r2.mono a3.ff).mono a4.ff) r4
          cases hg : o'.f e2 g with
          | none => trivial
          | some y =>
            rw [hg] at h5
            cases y with
            | bl t => exact h5.toE st4
            | _ => trivial
        | false =>
          refine (hz.seq (u := fun z H3 Q => ∃ k, z = .bl k ∧ (if k = true then (c.te Wx) σ H3 fun w' H4 => o'.r v2 w' H4 Q else Q (.bl false) H3)) (k := fun _ s2 => .ret (.bl false) s2) fun d3 s3 v3 F3 H3 he a3 st3 r3 => ?_)
          cases he
          refine OkE.imp (OkE.pure a3.fh st3 (rep_bl.mpr rfl)) fun Q q => ⟨false, rep_bl.mp r3, ?_⟩
          rw [if_neg Bool.false_ne_true]
          exact q
      | _ => trivial

/-! ### tests -/
def OkT (B : Bs) (w : Wd) (F H : Hp) (σ : L2.St) (Wx : WX) (t : (Bool → Hp → Prop) → Prop) (r : Res) : Prop := match r with
  | .ret (.bl b) s' => ∀ Q : Bool → Hp → Prop, (∀ F' H', Step w F H F' H' → StAt w s' F' H' → Q b H') → t Q
  | .exc c fs s' => (∀ od F' H', Step w F H F' H' → StAt w s' F' H' → ExAt B w F' fs od → Wx (.ref (B.ca c)) od σ H') → ∀ Q, t Q
  | _ => True
structure XT (B : Bs) where
  tt : WX → TT
  ev : Gm → HS → Res
  ok : ∀ {w : Wd} {F H : Hp} {σ : L2.St} {Γ : Gm} {s : HS} (Wx : WX), Ex F H → StAt w s F H → SlsAt B w F H Γ σ → OkT B w F H σ Wx (tt Wx σ H) (ev Γ s)
def Res.tst (r : Res) : Res := match r with
  | .ret (.bl b) s => .ret (.bl b) s
  | .exc c fs s => .exc c fs s
  | _ => .stuck
def Res.bindB (r : Res) (k : Bool → HS → Res) : Res := match r with
  | .ret (.bl b) s => k b s
  | .exc c fs s => .exc c fs s
  | _ => .stuck
section
variable {B : Bs} {w : Wd} {F H : Hp} {σ : L2.St} {Wx : WX}
theorem OkT.seqE {t : (Bool → Hp → Prop) → Prop} {u : Bool → Hp → VK → Prop} {r : Res} {k : Bool → HS → Res} (h : OkT B w F H σ Wx t r)
    (hu : ∀ b s1 F1 H1, r = .ret (.bl b) s1 → Step w F H F1 H1 → StAt w s1 F1 H1 → OkE B w F1 H1 σ Wx (u b H1) (k b s1)) : OkE B w F H σ Wx (fun Q => t (fun b H1 => u b H1 Q)) (r.bindB k) := by
  cases r with
  | stuck => trivial
  | exc c fs s' => exact fun hx Q => h hx _
  | ret d s1 =>
    cases d with
    | bl b =>
      show OkE B w F H σ Wx (fun Q => t (fun b H1 => u b H1 Q)) (k b s1)
      have hk := fun F1 H1 a c => hu b s1 F1 H1 rfl a c
      cases h2 : k b s1 with
      | stuck => trivial
      | exc c fs s2 =>
        intro hx Q
        refine h _ fun F1 H1 a c => ?_
        have z := hk F1 H1 a c
        rw [h2] at z
        exact z (fun od F2 H2 a2 b2 c2 => hx od F2 H2 (a.trans a2) b2 c2) Q
      | ret d2 s2 =>
        intro Q q
        refine h _ fun F1 H1 a c => ?_
        have z := hk F1 H1 a c
        rw [h2] at z
        exact z Q fun v2 F2 H2 a2 b2 c2 => q v2 F2 H2 (a.trans a2) b2 c2
    | _ => trivial
theorem OkT.seqT {t : (Bool → Hp → Prop) → Prop} {u : Bool → Hp → (Bool → Hp → Prop) → Prop} {r : Res} {k : Bool → HS → Res} (h : OkT B w F H σ Wx t r)
    (hu : ∀ b s1 F1 H1, r = .ret (.bl b) s1 → Step w F H F1 H1 → StAt w s1 F1 H1 → OkT B w F1 H1 σ Wx (u b H1) (k b s1)) : OkT B w F H σ Wx (fun Q => t (fun b H1 => u b H1 Q)) (r.bindB k) := by
  cases r with
  | stuck => trivial
  | exc c fs s' => exact fun hx Q => h hx _
  | ret d s1 =>
    cases d with
    | bl b =>
      show OkT B w F H σ Wx (fun Q => t (fun b H1 => u b H1 Q)) (k b s1)
      have hk := fun F1 H1 a c => hu b s1 F1 H1 rfl a c
      cases h2 : k b s1 with
      | stuck => trivial
      | exc c fs s2 =>
        intro hx Q
        refine h _ fun F1 H1 a c => ?_
        have z := hk F1 H1 a c
        rw [h2] at z
        exact z (fun od F2 H2 a2 b2 c2 => hx od F2 H2 (a.trans a2) b2 c2) Q
      | ret d2 s2 =>
        cases d2 with
        | bl b2 =>
          intro Q q
          refine h _ fun F1 H1 a c => ?_
          have z := hk F1 H1 a c
          rw [h2] at z
          exact z Q fun F2 H2 a2 b2 => q F2 H2 (a.trans a2) b2
        | _ => trivial
    | _ => trivial
theorem OkT.pure {s : HS} {b : Bool} (e : Ex F H) (st : StAt w s F H) : OkT B w F H σ Wx (fun Q => Q b H) (.ret (.bl b) s) := fun _ q => q F H (Step.refl e) st
theorem OkT.imp {t t' : (Bool → Hp → Prop) → Prop} {r : Res} (h : OkT B w F H σ Wx t r) (i : ∀ Q, t Q → t' Q) : OkT B w F H σ Wx t' r := by
  cases r with
  | stuck => trivial
  | exc c fs s' => exact fun hx Q => i Q (h hx Q)
  | ret d s' =>
    cases d with
    | bl b => exact fun Q q => i Q (h Q q)
    | _ => trivial
end
/-- a value that is a bool, as a test -/
def XT.ofE {B : Bs} (p : XE B) : XT B where
  tt := fun Wx => tB (p.te Wx)
  ev := fun Γ s => (p.ev Γ s).tst
  ok := fun {w F H σ Γ s} Wx e st sl => by
    have h := p.ok Wx e st sl
    cases hr : p.ev Γ s with
    | stuck => trivial
    | exc c fs s' => rw [hr] at h; exact fun hx Q => h hx _
    | ret d s' =>
      rw [hr] at h
      cases d with
      | bl b => exact fun Q q => h _ fun v F' H' a b r => ⟨_, rep_bl.mp r, q F' H' a b⟩
      | _ => trivial
def XT.and {B : Bs} (a b : XT B) : XT B where
  tt := fun Wx => tAnd (a.tt Wx) (b.tt Wx)
  ev := fun Γ s => (a.ev Γ s).bindB fun c s1 => if c = true then b.ev Γ s1 else .ret (.bl false) s1
  ok := fun {w F H σ Γ s} Wx e st sl => by
    refine (a.ok Wx e st sl).seqT (u := fun c H1 Q => if c = true then (b.tt Wx) σ H1 Q else Q false H1) fun c s1 F1 H1 _ a1 st1 => ?_
    cases c with
    | true =>
      simp only [if_true]
      exact b.ok Wx a1.fh st1 (sl.step a1)
    | false =>
      simp only [Bool.false_eq_true, if_false]
      exact OkT.pure a1.fh st1
def XT.or {B : Bs} (a b : XT B) : XT B where
  tt := fun Wx => tOr (a.tt Wx) (b.tt Wx)
  ev := fun Γ s => (a.ev Γ s).bindB fun c s1 => if c = true then .ret (.bl true) s1 else b.ev Γ s1
  ok := fun {w F H σ Γ s} Wx e st sl => by
    refine (a.ok Wx e st sl).seqT (u := fun c H1 Q => if c = true then Q true H1 else (b.tt Wx) σ H1 Q) fun c s1 F1 H1 _ a1 st1 => ?_
    cases c with
    | true =>
      simp only [if_true]
      exact OkT.pure a1.fh st1
    | false =>
      simp only [Bool.false_eq_true, if_false]
      exact b.ok Wx a1.fh st1 (sl.step a1)
def XT.not {B : Bs} (a : XT B) : XT B where
  tt := fun Wx => tNot (a.tt Wx)
  ev := fun Γ s => (a.ev Γ s).bindB fun c s1 => .ret (.bl (!c)) s1
  ok := fun {w F H σ Γ s} Wx e st sl =>
    (a.ok Wx e st sl).seqT (u := fun c H1 Q => Q (!c) H1) fun c s1 F1 H1 _ a1 st1 => OkT.pure a1.fh st1
/-- .. as values -/
def XE.and {B : Bs} (a b : XE B) : XE B where
  te := fun Wx => tAndV (a.te Wx) (b.te Wx)
  ev := fun Γ s => (a.ev Γ s).bindB fun c s1 => if c = true then b.ev Γ s1 else .ret (.bl false) s1
  ok := fun {w F H σ Γ s} Wx e st sl => by
    refine (((XT.ofE a).ok Wx e st sl).seqE (u := fun c H1 Q => if c = true then (b.te Wx) σ H1 Q else Q (.bl false) H1) (k := fun c s1 => if c = true then b.ev Γ s1 else .ret (.bl false) s1) fun c s1 F1 H1 _ a1 st1 => ?_).imp' (by
      show ((a.ev Γ s).tst).bindB _ = _
      cases a.ev Γ s with
      | ret d _ => cases d <;> rfl
      | _ => rfl) (fun Q q => q)
    cases c with
    | true =>
      simp only [if_true]
      exact b.ok Wx a1.fh st1 (sl.step a1)
    | false =>
      simp only [Bool.false_eq_true, if_false]
      exact OkE.pure a1.fh st1 (rep_bl.mpr rfl)
end Dv

set_option Elab.async false
set_option linter.all false
set_option maxRecDepth 100000
/-! # Statements, defs, loops -/
namespace Dv
open PySem PySem.Spec PyProof.Rows L2 Evl

theorem Res.bindB_tst (r : Res) (k : Bool → HS → Res) : r.tst.bindB k = r.bindB k := by
  cases r with
  | ret d _ => cases d <;> rfl
  | _ => rfl
def XE.or {B : Bs} (a b : XE B) : XE B where
  te := fun Wx => tOrV (a.te Wx) (b.te Wx)
  ev := fun Γ s => (a.ev Γ s).bindB fun c s1 => if c = true then .ret (.bl true) s1 else b.ev Γ s1
  ok := fun {w F H σ Γ s} Wx e st sl => by
    refine (((XT.ofE a).ok Wx e st sl).seqE (u := fun c H1 Q => if c = true then Q (.bl true) H1 else (b.te Wx) σ H1 Q) (k := fun c s1 => if c = true then .ret (.bl true) s1 else b.ev Γ s1) fun c s1 F1 H1 _ a1 st1 => ?_).imp' (Res.bindB_tst _ _) (fun Q q => q)
    cases c with
    | true =>
      simp only [if_true]
      exact OkE.pure a1.fh st1 (rep_bl.mpr rfl)
    | false =>
      simp only [Bool.false_eq_true, if_false]
      exact b.ok Wx a1.fh st1 (sl.step a1)
def XE.not {B : Bs} (a : XE B) : XE B where
  te := fun Wx => tNotV (a.te Wx)
  ev := fun Γ s => (a.ev Γ s).bindB fun c s1 => .ret (.bl (!c)) s1
  ok := fun {w F H σ Γ s} Wx e st sl =>
    (((XT.ofE a).ok Wx e st sl).seqE (u := fun c H1 Q => Q (.bl (!c)) H1) (k := fun c s1 => .ret (.bl (!c)) s1) fun c s1 F1 H1 _ a1 st1 => OkE.pure a1.fh st1 (rep_bl.mpr rfl)).imp' (Res.bindB_tst _ _) (fun Q q => q)
/-- a if t else b -/
def XE.ifx {B : Bs} (t : XT B) (a b : XE B) : XE B where
  te := fun Wx => tIf (t.tt Wx) (a.te Wx) (b.te Wx)
  ev := fun Γ s => (t.ev Γ s).bindB fun c s1 => if c = true then a.ev Γ s1 else b.ev Γ s1
  ok := fun {w F H σ Γ s} Wx e st sl => by
    refine (t.ok Wx e st sl).seqE (u := fun c H1 Q => if c = true then (a.te Wx) σ H1 Q else (b.te Wx) σ H1 Q) fun c s1 F1 H1 _ a1 st1 => ?_
    cases c with
    | true =>
      simp only [if_true]
      exact a.ok Wx a1.fh st1 (sl.step a1)
    | false =>
      simp only [Bool.false_eq_true, if_false]
      exact b.ok Wx a1.fh st1 (sl.step a1)

/-! ### what a def promises -/
abbrev Gf := List D → HS → Res
def spD (B : Bs) (n : Nat) (g : Gf) : Sp := fun vs H Q E => ∃ (w : Wd) (F : Hp) (ds : List D) (s : HS), ds.length = n ∧ Ex F H ∧ StAt w s F H ∧ Reps B w F ds vs ∧ (match g ds s with
  | .ret d s' => ∀ v F' H', Step w F H F' H' → StAt w s' F' H' → Rep B w F' d v → Q v H'
  | .exc c fs s' => ∀ od F' H', Step w F H F' H' → StAt w s' F' H' → ExAt B w F' fs od → E (.ref (B.ca c)) od H'
  | .stuck => False)
theorem spD_len {B : Bs} {n : Nat} {g : Gf} {vs : List V} {H : Hp} {Q : VK} {E : XK} (h : spD B n g vs H Q E) : vs.length = n := by
  obtain ⟨w, F, ds, s, hl, _, _, r, _⟩ := h
  rw [r.length, hl]
/-- a promise that is used -/
theorem spD_use {B : Bs} {n : Nat} {g : Gf} {w : Wd} {F H : Hp} {σ : L2.St} {Wx : WX} {ds : List D} {vs : List V} {s : HS} (hl : ds.length = n) (e : Ex F H) (st : StAt w s F H) (r : Reps B w F ds vs) :
    OkE B w F H σ Wx (fun Q => spD B n g vs H Q (WE Wx σ)) (g ds s) := by
  cases h : g ds s with
  | stuck => trivial
  | exc c fs s' => exact fun hx Q => ⟨w, F, ds, s, hl, e, st, r, by rw [h]; exact fun od F' H' a b c => hx od F' H' a b c⟩
  | ret d s' => exact fun Q q => ⟨w, F, ds, s, hl, e, st, r, by rw [h]; exact q⟩
/-- f(..) -/
def XE.call {B : Bs} (n : Nat) (g : Gf) (ps : List (XE B)) (hn : ps.length = n) : XE B where
  te := fun Wx => tCallS (spD B n g) (WE Wx) (tas Wx ps)
  ev := fun Γ s => evs Γ ps s g
  ok := fun {w F H σ Γ s} Wx e st sl =>
    evs_ok Wx ps (u := fun vs H1 Q => spD B n g vs H1 Q (WE Wx σ)) e st sl fun ds s1 vs F1 H1 a st1 r hl => spD_use (hl.trans hn) a.fh st1 r

/-! ### statements -/
inductive Out where
  | nxt (Γ : Gm) (s : HS) | ret (d : D) (s : HS) | brk (Γ : Gm) (s : HS) | cnt (Γ : Gm) (s : HS) | exc (c : Str) (fs : List (Str × D)) (Γ : Gm) (s : HS) | stuck

/-- the callers' own objects, and the instance that is being made (or changed) -/
structure Zs where
  z : Hp
  me : Addr
instance : CoeFun Zs (fun _ => Hp) := ⟨Zs.z⟩
structure Good (B : Bs) (w : Wd) (Z : Zs) (F H : Hp) (σ : L2.St) (Γ : Gm) (s : HS) : Prop where
  fh : Ex F H
  st : StAt w s F H
  sl : SlsAt B w F H Γ σ
  zz : ∀ a o, Z a = some o → F a = none ∧ H a = some o ∧ Off w a
  zo : ∀ (i : Nat) (t : Sl) (p : Addr), Γ[i]? = some t → owned t = true → σ[i]? = some (some (.ref p)) → Z p = none
  ow : ∀ (i j : Nat) (t u : Sl) (p : Addr), Γ[i]? = some t → Γ[j]? = some u → owned t = true → owned u = true → σ[i]? = some (some (.ref p)) → σ[j]? = some (some (.ref p)) → i = j
  ln : σ.length = Γ.length
  me : ∀ c fs, Γ[0]? = some (Sl.io c fs) → σ[0]? = some (some (.ref Z.me))
theorem Good.step {B : Bs} {w : Wd} {Z : Zs} {F H F' H' : Hp} {σ : L2.St} {Γ : Gm} {s s' : HS} (g : Good B w Z F H σ Γ s) (a : Step w F H F' H') (st : StAt w s' F' H') : Good B w Z F' H' σ Γ s' :=
  ⟨a.fh, st, g.sl.step a, fun x o hz => let ⟨h1, h2, h3⟩ := g.zz x o hz; let ⟨h4, h5⟩ := a.rest x o h2 h1 h3; ⟨h4, h5, h3⟩, g.zo, g.ow, g.ln, g.me⟩
/-- what is left of a def's frame when it is left -/
structure Gone (B : Bs) (w : Wd) (Z : Zs) (F H : Hp) (s : HS) : Prop where
  fh : Ex F H
  st : StAt w s F H
  zz : ∀ a o, Z a = some o → F a = none ∧ H a = some o ∧ Off w a
theorem Good.gone {B : Bs} {w : Wd} {Z : Zs} {F H : Hp} {σ : L2.St} {Γ : Gm} {s : HS} (g : Good B w Z F H σ Γ s) : Gone B w Z F H s := ⟨g.fh, g.st, g.zz⟩

def OkS (B : Bs) (w : Wd) (Z : Zs) (F : Hp) (Wx : WX) (D' : Ends) (t : Prop) (o : Out) : Prop := match o with
  | .nxt Γ s => (∀ F' H' σ', Ex F F' → Good B w Z F' H' σ' Γ s → D'.nx σ' H') → t
  | .brk Γ s => (∀ F' H' σ', Ex F F' → Good B w Z F' H' σ' Γ s → D'.bk σ' H') → t
  | .cnt Γ s => (∀ F' H' σ', Ex F F' → Good B w Z F' H' σ' Γ s → D'.ct σ' H') → t
  | .ret d s => (∀ v F' H', Ex F F' → Gone B w Z F' H' s → Rep B w F' d v → D'.rt v H') → t
  | .exc c fs Γ s => (∀ od F' H' σ', Ex F F' → Good B w Z F' H' σ' Γ s → ExAt B w F' fs od → Wx (.ref (B.ca c)) od σ' H') → t
  | .stuck => True
structure XS (B : Bs) where
  ts : WX → TS
  ev : Gm → HS → Out
  ok : ∀ {w : Wd} {Z : Zs} {F H : Hp} {σ : L2.St} {Γ : Gm} {s : HS} (Wx : WX) (D' : Ends), Good B w Z F H σ Γ s → OkS B w Z F Wx D' (ts Wx D' σ H) (ev Γ s)
def Out.bind (o : Out) (k : Gm → HS → Out) : Out := match o with
  | .nxt Γ s => k Γ s
  | .ret d s => .ret d s
  | .brk Γ s => .brk Γ s
  | .cnt Γ s => .cnt Γ s
  | .exc c fs Γ s => .exc c fs Γ s
  | .stuck => .stuck
/-- a result, then a statement's end -/
def Res.out (r : Res) (Γ : Gm) (k : D → HS → Out) : Out := match r with
  | .ret d s => k d s
  | .exc c fs s => .exc c fs Γ s
  | .stuck => .stuck
def Res.outB (r : Res) (Γ : Gm) (k : Bool → HS → Out) : Out := match r with
  | .ret (.bl b) s => k b s
  | .exc c fs s => .exc c fs Γ s
  | _ => .stuck
section
variable {B : Bs} {w : Wd} {Z : Zs} {F H : Hp} {σ : L2.St} {Γ : Gm} {s : HS} {Wx : WX} {D' : Ends}
theorem OkS.imp {t t' : Prop} {o : Out} (h : OkS B w Z F Wx D' t o) (i : t → t') : OkS B w Z F Wx D' t' o := by
  cases o with
  | stuck => trivial
  | _ => exact fun k => i (h k)
theorem OkS.back {F1 : Hp} {t : Prop} {o : Out} (e : Ex F F1) (h : OkS B w Z F1 Wx D' t o) : OkS B w Z F Wx D' t o := by
  cases o with
  | stuck => trivial
  | nxt _ _ => exact fun k => h fun F' H' σ' e' g => k F' H' σ' (e.trans e') g
  | brk _ _ => exact fun k => h fun F' H' σ' e' g => k F' H' σ' (e.trans e') g
  | cnt _ _ => exact fun k => h fun F' H' σ' e' g => k F' H' σ' (e.trans e') g
  | ret _ _ => exact fun k => h fun v F' H' e' g => k v F' H' (e.trans e') g
  | exc _ _ _ _ => exact fun k => h fun od F' H' σ' e' g => k od F' H' σ' (e.trans e') g
/-- pushes a continuation into a reading of an expression: t is what follows with the value -/
theorem OkE.stm {ta : VK → Prop} {u : V → Hp → Prop} {r : Res} {k : D → HS → Out} (g : Good B w Z F H σ Γ s) (h : OkE B w F H σ Wx ta r)
    (hu : ∀ d s1 v F1 H1, r = .ret d s1 → Step w F H F1 H1 → Good B w Z F1 H1 σ Γ s1 → Rep B w F1 d v → OkS B w Z F1 Wx D' (u v H1) (k d s1)) : OkS B w Z F Wx D' (ta u) (r.out Γ k) := by
  cases r with
  | stuck => trivial
  | exc c fs s' => exact fun hx => h (fun od F' H' a b c => hx od F' H' σ a.ff (g.step a b) c) u
  | ret d s1 =>
    show OkS B w Z F Wx D' (ta u) (k d s1)
    have hk := fun v F1 H1 (a : Step w F H F1 H1) (b : StAt w s1 F1 H1) c => (hu d s1 v F1 H1 rfl a (g.step a b) c).back a.ff
    cases h2 : k d s1 with
    | stuck => trivial
    | nxt _ _ => exact fun q => h u fun v F1 H1 a b c => by have z := hk v F1 H1 a b c; rw [h2] at z; exact z q
    | brk _ _ => exact fun q => h u fun v F1 H1 a b c => by have z := hk v F1 H1 a b c; rw [h2] at z; exact z q
    | cnt _ _ => exact fun q => h u fun v F1 H1 a b c => by have z := hk v F1 H1 a b c; rw [h2] at z; exact z q
    | ret _ _ => exact fun q => h u fun v F1 H1 a b c => by have z := hk v F1 H1 a b c; rw [h2] at z; exact z q
    | exc _ _ _ _ => exact fun q => h u fun v F1 H1 a b c => by have z := hk v F1 H1 a b c; rw [h2] at z; exact z q
theorem OkT.stm {ta : (Bool → Hp → Prop) → Prop} {u : Bool → Hp → Prop} {r : Res} {k : Bool → HS → Out} (g : Good B w Z F H σ Γ s) (h : OkT B w F H σ Wx ta r)
    (hu : ∀ b s1 F1 H1, r = .ret (.bl b) s1 → Step w F H F1 H1 → Good B w Z F1 H1 σ Γ s1 → OkS B w Z F1 Wx D' (u b H1) (k b s1)) : OkS B w Z F Wx D' (ta u) (r.outB Γ k) := by
  cases r with
  | stuck => trivial
  | exc c fs s' => exact fun hx => h (fun od F' H' a b c => hx od F' H' σ a.ff (g.step a b) c) u
  | ret d s1 =>
    cases d with
    | bl b =>
      show OkS B w Z F Wx D' (ta u) (k b s1)
      have hk := fun F1 H1 (a : Step w F H F1 H1) (c : StAt w s1 F1 H1) => (hu b s1 F1 H1 rfl a (g.step a c)).back a.ff
      cases h2 : k b s1 with
      | stuck => trivial
      | nxt _ _ => exact fun q => h u fun F1 H1 a c => by have z := hk F1 H1 a c; rw [h2] at z; exact z q
      | brk _ _ => exact fun q => h u fun F1 H1 a c => by have z := hk F1 H1 a c; rw [h2] at z; exact z q
      | cnt _ _ => exact fun q => h u fun F1 H1 a c => by have z := hk F1 H1 a c; rw [h2] at z; exact z q
      | ret _ _ => exact fun q => h u fun F1 H1 a c => by have z := hk F1 H1 a c; rw [h2] at z; exact z q
      | exc _ _ _ _ => exact fun q => h u fun F1 H1 a c => by have z := hk F1 H1 a c; rw [h2] at z; exact z q
    | _ => trivial
theorem Good.set {i : Nat} {d : D} {v : V} (g : Good B w Z F H σ Γ s) (r : Rep B w F d v) : Good B w Z F H (σ.set i (some v)) (Γ.set i (.fr d)) s := by
  refine ⟨g.fh, g.st, fun j t e => ?_, g.zz, fun j t p e ho hp => ?_, fun j k t u p e e' ho ho' hp hp' => ?_, by rw [List.length_set, List.length_set, g.ln], fun c fs e => ?_⟩
  · rw [List.getElem?_set] at e
    by_cases hij : i = j
    · subst hij
      rw [if_pos rfl] at e
      by_cases hi : i < Γ.length
      · rw [if_pos hi] at e
        cases e
        exact ⟨some v, by rw [List.getElem?_set_self (by rw [g.ln]; exact hi)], v, rfl, r⟩
      · rw [if_neg hi] at e; cases e
    · rw [if_neg hij] at e
      obtain ⟨x, h1, h2⟩ := g.sl j t e
      exact ⟨x, by rw [List.getElem?_set_ne hij]; exact h1, h2⟩
  · by_cases hij : i = j
    · subst hij
      rw [List.getElem?_set, if_pos rfl] at e
      split at e
      · cases e; cases ho
      · cases e
    · rw [List.getElem?_set_ne hij] at e hp
      exact g.zo j t p e ho hp
  · by_cases hij : i = j
    · subst hij
      rw [List.getElem?_set, if_pos rfl] at e
      split at e
      · cases e; cases ho
      · cases e
    · by_cases hik : i = k
      · subst hik
        rw [List.getElem?_set, if_pos rfl] at e'
        split at e'
        · cases e'; cases ho'
        · cases e'
      · rw [List.getElem?_set_ne hij] at e hp
        rw [List.getElem?_set_ne hik] at e' hp'
        exact g.ow j k t u p e e' ho ho' hp hp'
  · by_cases hi : i = 0
    · subst hi
      rw [List.getElem?_set, if_pos rfl] at e
      split at e
      · cases e
      · cases e
    · rw [List.getElem?_set_ne hi] at e ⊢
      exact g.me c fs e
end
def XS.seq {B : Bs} (a b : XS B) : XS B where
  ts := fun Wx => tSeq (a.ts Wx) (b.ts Wx)
  ev := fun Γ s => (a.ev Γ s).bind b.ev
  ok := fun {w Z F H σ Γ s} Wx D' g => by
    show OkS B w Z F Wx D' ((a.ts Wx) { D' with nx := (b.ts Wx) D' } σ H) _
    have h := a.ok Wx { D' with nx := (b.ts Wx) D' } g
    cases h1 : a.ev Γ s with
    | stuck => trivial
    | brk _ _ => rw [h1] at h; exact h
    | cnt _ _ => rw [h1] at h; exact h
    | ret _ _ => rw [h1] at h; exact h
    | exc _ _ _ _ => rw [h1] at h; exact h
    | nxt Γ1 s1 =>
      rw [h1] at h
      show OkS B w Z F Wx D' _ (b.ev Γ1 s1)
      have hk := fun F1 H1 σ1 (e : Ex F F1) (g1 : Good B w Z F1 H1 σ1 Γ1 s1) => (b.ok Wx D' g1).back e
      cases h2 : b.ev Γ1 s1 with
      | stuck => trivial
      | nxt _ _ => exact fun q => h fun F1 H1 σ1 e g1 => by have z := hk F1 H1 σ1 e g1; rw [h2] at z; exact z q
      | brk _ _ => exact fun q => h fun F1 H1 σ1 e g1 => by have z := hk F1 H1 σ1 e g1; rw [h2] at z; exact z q
      | cnt _ _ => exact fun q => h fun F1 H1 σ1 e g1 => by have z := hk F1 H1 σ1 e g1; rw [h2] at z; exact z q
      | ret _ _ => exact fun q => h fun F1 H1 σ1 e g1 => by have z := hk F1 H1 σ1 e g1; rw [h2] at z; exact z q
      | exc _ _ _ _ => exact fun q => h fun F1 H1 σ1 e g1 => by have z := hk F1 H1 σ1 e g1; rw [h2] at z; exact z q
def XS.pass (B : Bs) : XS B where
  ts := fun _ => tNext
  ev := fun Γ s => .nxt Γ s
  ok := fun {w Z F H σ Γ s} Wx D' g k => k F H σ (Ex.refl F) g
def XS.brk (B : Bs) : XS B where
  ts := fun _ => tBreak
  ev := fun Γ s => .brk Γ s
  ok := fun {w Z F H σ Γ s} Wx D' g k => k F H σ (Ex.refl F) g
def XS.cnt (B : Bs) : XS B where
  ts := fun _ => tCont
  ev := fun Γ s => .cnt Γ s
  ok := fun {w Z F H σ Γ s} Wx D' g k => k F H σ (Ex.refl F) g
/-- x = e -/
def XS.set {B : Bs} (i : Nat) (p : XE B) : XS B where
  ts := fun Wx => tAsg (p.te Wx) (gName i)
  ev := fun Γ s => (p.ev Γ s).out Γ fun d s1 => .nxt (Γ.set i (.fr d)) s1
  ok := fun {w Z F H σ Γ s} Wx D' g =>
    (p.ok Wx g.fh g.st g.sl).stm g (u := fun x H1 => D'.nx (σ.set i (some x)) H1) fun d s1 v F1 H1 _ a g1 r => fun k => k F1 H1 _ (Ex.refl F1) (g1.set r)
def XS.ret {B : Bs} (p : XE B) : XS B where
  ts := fun Wx => tRet (p.te Wx)
  ev := fun Γ s => (p.ev Γ s).out Γ fun d s1 => .ret d s1
  ok := fun {w Z F H σ Γ s} Wx D' g =>
    (p.ok Wx g.fh g.st g.sl).stm g (u := D'.rt) fun d s1 v F1 H1 _ a g1 r => fun k => k v F1 H1 (Ex.refl F1) g1.gone r
def XS.retN (B : Bs) : XS B where
  ts := fun _ => tRetN
  ev := fun Γ s => .ret .non s
  ok := fun {w Z F H σ Γ s} Wx D' g k => k .non F H (Ex.refl F) g.gone (rep_non.mpr rfl)
def XS.drop {B : Bs} (p : XE B) : XS B where
  ts := fun Wx => tDrop (p.te Wx)
  ev := fun Γ s => (p.ev Γ s).out Γ fun d s1 => .nxt Γ s1
  ok := fun {w Z F H σ Γ s} Wx D' g =>
    (p.ok Wx g.fh g.st g.sl).stm g (u := fun x H1 => D'.nx σ H1) fun d s1 v F1 H1 _ a g1 r => fun k => k F1 H1 _ (Ex.refl F1) g1
def XS.ite {B : Bs} (t : XT B) (a b : XS B) : XS B where
  ts := fun Wx => tIfS (t.tt Wx) (a.ts Wx) (b.ts Wx)
  ev := fun Γ s => (t.ev Γ s).outB Γ fun c s1 => if c = true then a.ev Γ s1 else b.ev Γ s1
  ok := fun {w Z F H σ Γ s} Wx D' g => by
    refine (t.ok Wx g.fh g.st g.sl).stm g (u := fun c H1 => if c = true then (a.ts Wx) D' σ H1 else (b.ts Wx) D' σ H1) fun c s1 F1 H1 _ a1 g1 => ?_
    cases c with
    | true =>
      simp only [if_true]
      exact a.ok Wx D' g1
    | false =>
      simp only [Bool.false_eq_true, if_false]
      exact b.ok Wx D' g1

/-! ### a def by its body -/
def Out.res : Out → Res
  | .nxt _ s => .ret .non s
  | .ret d s => .ret d s
  | .exc c fs _ s => .exc c fs s
  | _ => .stuck
/-- the body p, its names being m: the parameters first -/
def XS.fn {B : Bs} (p : XS B) (m : Nat) : Gf := fun ds s => (p.ev (ds.map Sl.fr ++ List.replicate (m - ds.length) Sl.no) s).res
open Classical in
/-- the caller's objects that are not frozen -/
noncomputable def Zof (w : Wd) (F H : Hp) : Hp := fun a => if F a = none ∧ Off w a then H a else none
theorem Zof.of {w : Wd} {F H : Hp} {a : Addr} {o : HO} (h : Zof w F H a = some o) : F a = none ∧ H a = some o ∧ Off w a := by
  unfold Zof at h
  split at h
  · rename_i hc; exact ⟨hc.1, h, hc.2⟩
  · cases h
theorem Zof.mk {w : Wd} {F H : Hp} {a : Addr} {o : HO} (h1 : F a = none) (h2 : Off w a) (h : H a = some o) : Zof w F H a = some o := by
  unfold Zof
  rw [if_pos ⟨h1, h2⟩]
  exact h
theorem start_good {B : Bs} {w : Wd} {F H : Hp} {ds : List D} {vs : List V} {s : HS} {N : List Str} (e : Ex F H) (st : StAt w s F H) (r : Reps B w F ds vs) :
    Good B w ⟨Zof w F H, 0⟩ F H (L2.start N vs) (ds.map Sl.fr ++ List.replicate (N.length - ds.length) Sl.no) s := by
  have hl := r.length
  refine ⟨e, st, fun i t h => ?_, fun a o h => Zof.of h, fun i t p h ho _ => ?_, fun i j t u p h _ ho _ _ _ => ?_, ?_, fun c fs h => ?_⟩
  · unfold L2.start
    by_cases hi : i < ds.length
    · rw [List.getElem?_append_left (by simpa using hi), List.getElem?_map] at h
      cases hd : ds[i]? with
      | none => rw [hd] at h; cases h
      | some d =>
        rw [hd] at h
        cases h
        obtain ⟨v, h1, h2⟩ := r.get hd
        refine ⟨some v, ?_, v, rfl, h2⟩
        rw [List.getElem?_append_left (by simp; omega), List.getElem?_map, h1] <;> rfl
    · rw [List.getElem?_append_right (by simp; omega), List.getElem?_replicate] at h
      split at h
      · cases h
        refine ⟨none, ?_, trivial⟩
        rw [List.getElem?_append_right (by simp; omega), List.getElem?_replicate, if_pos (by simp at *; omega)]
      · cases h
  · exfalso
    by_cases hi : i < ds.length
    · rw [List.getElem?_append_left (by simpa using hi), List.getElem?_map] at h
      cases hd : ds[i]? with
      | none => rw [hd] at h; cases h
      | some d => rw [hd] at h; cases h; cases ho
    · rw [List.getElem?_append_right (by simp; omega), List.getElem?_replicate] at h
      split at h
      · cases h; cases ho
      · cases h
  · exfalso
    by_cases hi : i < ds.length
    · rw [List.getElem?_append_left (by simpa using hi), List.getElem?_map] at h
      cases hd : ds[i]? with
      | none => rw [hd] at h; cases h
      | some d => rw [hd] at h; cases h; cases ho
    · rw [List.getElem?_append_right (by simp; omega), List.getElem?_replicate] at h
      split at h
      · cases h; cases ho
      · cases h
  · unfold L2.start
    simp [hl]
  · exfalso
    by_cases hi : 0 < ds.length
    · rw [List.getElem?_append_left (by simpa using hi), List.getElem?_map] at h
      cases hd : ds[0]? with
      | none => rw [hd] at h; cases h
      | some d => rw [hd] at h; cases h
    · have e0 : ds = [] := List.eq_nil_of_length_eq_zero (by omega)
      subst e0
      rw [List.map_nil, List.nil_append, List.getElem?_replicate] at h
      split at h
      · cases h
      · cases h
/-- a body keeps what its def promises -/
theorem body_ok {B : Bs} {n : Nat} {N : List Str} {p : XS B} {g : Gf} (hg : ∀ ds s, ds.length = n → g ds s = p.fn N.length ds s) {vs : List V} {H : Hp} {Q : VK} {E : XK} (h : spD B n g vs H Q E) :
    (p.ts fun cls d _ H => E cls d H) { nx := fun _ H' => Q .non H', rt := Q } (L2.start N vs) H := by
  obtain ⟨w, F, ds, s, hl, e, st, r, hm⟩ := h
  rw [hg ds s hl] at hm
  have z := p.ok (fun cls d _ H => E cls d H) { nx := fun _ H' => Q .non H', rt := Q } (start_good (N := N) e st r)
  have fin : ∀ {F' H' : Hp} {s' : HS}, Ex F F' → Gone B w ⟨Zof w F H, 0⟩ F' H' s' → Step w F H F' H' := fun {F' H' s'} e' g' =>
    ⟨e', g'.fh, fun a o h1 h2 h3 => let ⟨h4, h5, _⟩ := g'.zz a o (Zof.mk h2 h3 h1); ⟨h4, h5⟩⟩
  unfold XS.fn at hm
  cases ho : p.ev (ds.map Sl.fr ++ List.replicate (N.length - ds.length) Sl.no) s with
  | nxt Γ s' => rw [ho] at hm z; exact z fun F' H' σ' e' g' => hm .non F' H' (fin e' g'.gone) g'.st (rep_non.mpr rfl)
  | ret d s' => rw [ho] at hm z; exact z fun v F' H' e' g' r' => hm v F' H' (fin e' g') g'.st r'
  | exc c fs Γ s' => rw [ho] at hm z; exact z fun od F' H' σ' e' g' x => hm od F' H' (fin e' g'.gone) g'.st x
  | brk _ _ => rw [ho] at hm; exact hm.elim
  | cnt _ _ => rw [ho] at hm; exact hm.elim
  | stuck => rw [ho] at hm; exact hm.elim
section
variable {P : Program} {w : World} {mg : Str → Option Value} {base : Heap}
/-- THE RULE for a def -/
theorem fn_ok {B : Bs} {x qual : Str} {st : Stmt} {f : Addr} {fd : FuncData} {N ps : List Str} {k : Nat} {g : Gf} {p : XS B} (Fn : Fun B.K x qual st f fd) (S : FnScope N ps (defScope st)) (hg : ∀ ds s, ds.length = ps.length → g ds s = p.fn N.length ds s)
    (hb : ∀ (cdv : Value) (A : Around) (outer : List Env) (s : Shared) (H : Hp) (E : XK), Room k (A.deeper (envOfC qual (defScope st) s.heap.objs.size f cdv)) →
      PSs (cxOf (L2.CX P w) P w B.K mg base N qual (defScope st) f cdv A outer s H E) (defBody st) (p.ts fun cls d _ H => E cls d H)) :
    FnOk P w B.K mg base (L2.CX P w) (k + 1) f fd ps (spD B ps.length g) :=
  Fn.okX S (fun vs H Q E h => spD_len h) fun cdv A outer s H vs Q E hr h => ⟨_, hb cdv A outer s H E hr, body_ok hg h⟩
end
end Dv

set_option Elab.async false
set_option linter.all false
set_option maxRecDepth 100000
/-! # Targets, loops, comprehensions, new lists, lists that are changed -/
namespace Dv
open PySem PySem.Spec PyProof.Rows L2 Evl

/-! ### targets -/
def setGm (Γ : Gm) : List (Nat × D) → Gm
  | [] => Γ
  | (i, d) :: l => setGm (Γ.set i (.fr d)) l
def setSt (σ : L2.St) : List (Nat × V) → L2.St
  | [] => σ
  | (i, v) :: l => setSt (σ.set i (some v)) l
abbrev Asg (B : Bs) (w : Wd) (F : Hp) : List (Nat × D) → List (Nat × V) → Prop := Paired fun a b => a.1 = b.1 ∧ Rep B w F a.2 b.2
theorem Asg.append {B : Bs} {w : Wd} {F : Hp} : ∀ {l m : List (Nat × D)} {l' m' : List (Nat × V)}, Asg B w F l l' → Asg B w F m m' → Asg B w F (l ++ m) (l' ++ m')
  | _, _, _, _, .nil, h => h
  | _, _, _, _, .cons r t, h => .cons r (Asg.append t h)
theorem setSt_append (σ : L2.St) : ∀ l m : List (Nat × V), setSt σ (l ++ m) = setSt (setSt σ l) m
  | [], _ => rfl
  | (i, v) :: l, m => setSt_append (σ.set i (some v)) l m
theorem Good.sets {B : Bs} {w : Wd} {Z : Zs} {F H : Hp} : ∀ {l : List (Nat × D)} {l' : List (Nat × V)} {σ : L2.St} {Γ : Gm} {s : HS}, Asg B w F l l' → Good B w Z F H σ Γ s → Good B w Z F H (setSt σ l') (setGm Γ l) s
  | _, _, _, _, _, .nil, g => g
  | _, _, σ, Γ, s, .cons (a := a) (b := b) (l₁ := l₁) (l₂ := l₂) r t, g => by
    obtain ⟨i, d⟩ := a
    obtain ⟨j, v⟩ := b
    obtain ⟨e, r⟩ := r
    cases e
    have z := Good.sets (σ := σ.set i (some v)) (Γ := Γ.set i (.fr d)) t (g.set r)
    exact z
structure XG (B : Bs) where
  tg : TG
  as : D → Option (List (Nat × D))
  ok : ∀ {w : Wd} {F H : Hp} {d : D} {x : V} {l : List (Nat × D)}, as d = some l → Ex F H → Rep B w F d x → ∃ l', Asg B w F l l' ∧ ∀ (σ : L2.St) (Q : L2.St → Hp → Prop), Q (setSt σ l') H → tg x σ H Q
def XG.name (B : Bs) (i : Nat) : XG B where
  tg := gName i
  as := fun d => some [(i, d)]
  ok := fun {w F H d x l} h e r => by
    cases h
    exact ⟨[(i, x)], .cons ⟨rfl, r⟩ .nil, fun σ Q q => q⟩
def tgs {B : Bs} : List (XG B) → TGs
  | [] => gNil
  | g :: gs => gCons g.tg (tgs gs)
def ass {B : Bs} : List (XG B) → List D → Option (List (Nat × D))
  | [], [] => some []
  | g :: gs, d :: ds => match g.as d with
    | some l => match ass gs ds with
      | some m => some (l ++ m)
      | none => none
    | none => none
  | _, _ => none
theorem tgs_ok {B : Bs} {w : Wd} {F H : Hp} (e : Ex F H) : ∀ (gs : List (XG B)) {ds : List D} {xs : List V} {l : List (Nat × D)}, ass gs ds = some l → Reps B w F ds xs → ∃ l', Asg B w F l l' ∧ xs.length = gs.length ∧ ∀ (σ : L2.St) (Q : L2.St → Hp → Prop), Q (setSt σ l') H → tgs gs xs σ H Q
  | [], [], xs, l, h, r => by
    cases h
    rw [reps_nil.mp r]
    exact ⟨[], .nil, rfl, fun σ Q q => ⟨rfl, q⟩⟩
  | [], d :: ds, xs, l, h, r => by cases h
  | g :: gs, [], xs, l, h, r => by cases h
  | g :: gs, d :: ds, xs, l, h, r => by
    obtain ⟨v, vs, rfl, r1, r2⟩ := reps_cons.mp r
    unfold ass at h
    cases h1 : g.as d with
    | none => rw [h1] at h; cases h
    | some l1 =>
      rw [h1] at h
      cases h2 : ass gs ds with
      | none => rw [h2] at h; cases h
      | some l2 =>
        rw [h2] at h
        cases h
        obtain ⟨a, ha, qa⟩ := g.ok h1 e r1
        obtain ⟨b, hb, hl, qb⟩ := tgs_ok e gs h2 r2
        refine ⟨a ++ b, ha.append hb, by simp [hl], fun σ Q q => ⟨v, vs, rfl, qa σ _ (qb _ Q ?_)⟩⟩
        rw [← setSt_append]
        exact q
def XG.tup {B : Bs} (gs : List (XG B)) : XG B where
  tg := gTup B.K gs.length (tgs gs)
  as := fun d => match d with
    | .tup _ ds => ass gs ds
    | _ => none
  ok := fun {w F H d x l} h e r => by
    cases d with
    | tup pl ds =>
      obtain ⟨p, xs, rfl, ht, hr⟩ := rep_tupE r
      obtain ⟨l', h1, hl, q⟩ := tgs_ok e gs h hr
      exact ⟨l', h1, fun σ Q k => ⟨p, xs, rfl, ex_t e ht, hl, q σ Q k⟩⟩
    | _ => cases h

/-! ### what is walked -/
def Yl (B : Bs) (w : Wd) (F1 : Hp) (J : It) (ds : List D) : Prop := ∀ F H, Ex F1 F → Ex F H → (∀ (i : Nat) (d : D), ds[i]? = some d → J.go i H ∧ ∀ x H', J.yld i H x H' → ∃ F', Step w F H F' H' ∧ Keeps w F H F' H' ∧ Rep B w F' d x) ∧ J.stop ds.length H
def OkI (B : Bs) (w : Wd) (F H : Hp) (σ : L2.St) (Wx : WX) (t : (It → Hp → Prop) → Prop) (r : Res) : Prop := match r with
  | .ret (.lst ds) s' => ∀ R : It → Hp → Prop, (∀ J F' H', Step w F H F' H' → StAt w s' F' H' → Yl B w F' J ds → R J H') → t R
  | .exc c fs s' => (∀ od F' H', Step w F H F' H' → StAt w s' F' H' → ExAt B w F' fs od → Wx (.ref (B.ca c)) od σ H') → ∀ R, t R
  | _ => True
structure XI (B : Bs) where
  ti : WX → TI
  ev : Gm → HS → Res
  ok : ∀ {w : Wd} {F H : Hp} {σ : L2.St} {Γ : Gm} {s : HS} (Wx : WX), Ex F H → StAt w s F H → SlsAt B w F H Γ σ → OkI B w F H σ Wx (ti Wx σ H) (ev Γ s)
/-- by an expression's value -/
theorem OkI.seq {B : Bs} {w : Wd} {F H : Hp} {σ : L2.St} {Wx : WX} {ta : VK → Prop} {u : V → Hp → (It → Hp → Prop) → Prop} {ra : Res} {f : D → Option (List D)} (ha : OkE B w F H σ Wx ta ra)
    (hu : ∀ d ds v F1 H1, f d = some ds → Ex F1 H1 → Rep B w F1 d v → ∃ J, Yl B w F1 J ds ∧ ∀ R : It → Hp → Prop, R J H1 → u v H1 R) :
    OkI B w F H σ Wx (fun R => ta (fun x H1 => u x H1 R)) (ra.bind fun d s1 => match f d with
      | some ds => .ret (.lst ds) s1
      | none => .stuck) := by
  cases ra with
  | stuck => trivial
  | exc c fs s' => exact fun hx R => ha hx _
  | ret d s1 =>
    show OkI B w F H σ Wx _ (match f d with
      | some ds => .ret (.lst ds) s1
      | none => .stuck)
    cases h : f d with
    | none => trivial
    | some ds =>
      intro R k
      refine ha _ fun v F1 H1 a b c => ?_
      obtain ⟨J, h1, h2⟩ := hu d ds v F1 H1 h a.fh c
      exact h2 R (k J F1 H1 a b h1)
theorem yl_list {B : Bs} {w : Wd} {F1 : Hp} {a : Addr} {xs : List V} {ds : List D} (hx : SqL B.K F1 a xs) (r : Reps B w F1 ds xs) : Yl B w F1 (Itl B.K a) ds := fun F H e1 e2 => by
  have hq := ex_l (e1.trans e2) hx
  refine ⟨fun i d hd => ?_, xs, hq, by rw [r.length]; exact Nat.le_refl _⟩
  obtain ⟨v, h1, h2⟩ := r.get hd
  refine ⟨⟨xs, v, hq, h1⟩, fun x H' y => ?_⟩
  obtain ⟨e, y⟩ := y
  subst e
  have hv := y xs hq
  rw [h1] at hv
  cases hv
  exact ⟨F, Step.refl e2, fun _ z => z, h2.mono e1⟩
theorem yl_tup {B : Bs} {w : Wd} {F1 : Hp} {a : Addr} {xs : List V} {ds : List D} (hx : SqT B.K F1 a xs) (r : Reps B w F1 ds xs) : Yl B w F1 (Itt B.K a) ds := fun F H e1 e2 => by
  have hq := ex_t (e1.trans e2) hx
  refine ⟨fun i d hd => ?_, xs, hq, by rw [r.length]; exact Nat.le_refl _⟩
  obtain ⟨v, h1, h2⟩ := r.get hd
  refine ⟨⟨xs, v, hq, h1⟩, fun x H' y => ?_⟩
  obtain ⟨e, y⟩ := y
  subst e
  have hv := y xs hq
  rw [h1] at hv
  cases hv
  exact ⟨F, Step.refl e2, fun _ z => z, h2.mono e1⟩
theorem yl_str {B : Bs} {w : Wd} {F1 : Hp} {x : Str} : Yl B w F1 (Its x) (x.cps.toList.map fun c => D.str ⟨#[c]⟩) := fun F H e1 e2 => by
  refine ⟨fun i d hd => ?_, ?_⟩
  · rw [List.getElem?_map] at hd
    cases hc : x.cps.toList[i]? with
    | none => rw [hc] at hd; cases hd
    | some c =>
      rw [hc] at hd
      cases hd
      have hi : i < x.cps.size := by
        have := (List.getElem?_eq_some_iff.mp hc).1
        simpa using this
      refine ⟨hi, fun v H' y => ?_⟩
      obtain ⟨e, c', h1, h2⟩ := y
      subst e h2
      have : x.cps[i]? = some c := by simpa using hc
      rw [this] at h1
      cases h1
      exact ⟨F, Step.refl e2, fun _ z => z, rep_str.mpr rfl⟩
  · show x.cps.size ≤ _
    simp
theorem yl_range {B : Bs} {w : Wd} {F1 : Hp} {lo : Int} {n : Nat} : Yl B w F1 (Itr lo n) ((List.range n).map fun (i : Nat) => D.int (lo + (i : Int))) := fun F H e1 e2 => by
  refine ⟨fun i d hd => ?_, ?_⟩
  · rw [List.getElem?_map] at hd
    have hi : i < n := by
      rcases Nat.lt_or_ge i n with h | h
      · exact h
      · rw [List.getElem?_eq_none (by simpa using h)] at hd; cases hd
    rw [List.getElem?_range hi] at hd
    cases hd
    refine ⟨hi, fun v H' y => ?_⟩
    obtain ⟨e, h1⟩ := y
    subst e h1
    exact ⟨F, Step.refl e2, fun _ z => z, rep_int.mpr rfl⟩
  · show n ≤ _
    simp
def itemsOf : D → Option (List D)
  | .lst ds => some ds
  | .rol ns => some (ns.map D.int)
  | .tup _ ds => some ds
  | .str x => some (x.cps.toList.map fun c => D.str ⟨#[c]⟩)
  | _ => none
/-- a list, a tuple, a text -/
def XI.of {B : Bs} (p : XE B) : XI B where
  ti := fun Wx σ H R => iList B.K (p.te Wx) σ H R ∨ iTup B.K (p.te Wx) σ H R ∨ iStr (p.te Wx) σ H R
  ev := fun Γ s => (p.ev Γ s).bind fun d s1 => match itemsOf d with
    | some ds => .ret (.lst ds) s1
    | none => .stuck
  ok := fun {w F H σ Γ s} Wx e st sl => by
    have h := p.ok Wx e st sl
    cases hr : p.ev Γ s with
    | stuck => trivial
    | exc c fs s' => rw [hr] at h; exact fun hx R => .inl (h hx _)
    | ret d s1 =>
      rw [hr] at h
      cases d with
      | lst ds =>
        refine fun R k => .inl (h _ fun v F1 H1 a b c => ?_)
        obtain ⟨q, xs, rfl, hq, hr⟩ := rep_lst.mp c
        exact ⟨q, rfl, ⟨xs, sq_of (a.fh _ _ hq)⟩, k _ F1 H1 a b (yl_list (sq_of hq) hr)⟩
      | rol ns =>
        refine fun R k => .inl (h _ fun v F1 H1 a b c => ?_)
        obtain ⟨q, rfl, hq⟩ := rep_rol.mp c
        exact ⟨q, rfl, ⟨_, ex_l a.fh hq⟩, k _ F1 H1 a b (yl_list hq reps_ints)⟩
      | tup pl ds =>
        refine fun R k => .inr (.inl (h _ fun v F1 H1 a b c => ?_))
        obtain ⟨q, xs, rfl, hq, hr⟩ := rep_tupE c
        exact ⟨q, rfl, ⟨xs, ex_t a.fh hq⟩, k _ F1 H1 a b (yl_tup hq hr)⟩
      | str x =>
        refine fun R k => .inr (.inr (h _ fun v F1 H1 a b c => ?_))
        cases rep_str.mp c
        exact ⟨x, rfl, k _ F1 H1 a b yl_str⟩
      | _ => trivial
def rangeD (lo hi : Int) : List D := (List.range (hi - lo).toNat).map fun (i : Nat) => D.int (lo + (i : Int))
/-- range(n) -/
def XI.range1 {B : Bs} (p : XE B) : XI B where
  ti := fun Wx => iRng1 (tas Wx [p])
  ev := fun Γ s => (p.ev Γ s).bind fun d s1 => match d with
    | .int n => if -(2 ^ 62) ≤ n ∧ n < 2 ^ 62 then .ret (.lst (rangeD 0 n)) s1 else .stuck
    | _ => .stuck
  ok := fun {w F H σ Γ s} Wx e st sl => by
    have h := p.ok Wx e st sl
    cases hr : p.ev Γ s with
    | stuck => trivial
    | exc c fs s' => rw [hr] at h; exact fun hx R => h hx _
    | ret d s1 =>
      rw [hr] at h
      cases d with
      | int n =>
        show OkI B w F H σ Wx _ (if -(2 ^ 62) ≤ n ∧ n < 2 ^ 62 then .ret (.lst (rangeD 0 n)) s1 else .stuck)
        by_cases hc : -(2 ^ 62) ≤ n ∧ n < 2 ^ 62
        · rw [if_pos hc]
          refine fun R k => h _ fun v F1 H1 a b c => ?_
          cases rep_int.mp c
          refine ⟨n, rfl, hc.1, hc.2, k _ F1 H1 a b ?_⟩
          unfold rangeD
          rw [Int.sub_zero]
          exact yl_range
        · rw [if_neg hc]; trivial
      | _ => trivial

/-- a turn's end: what the loop does then -/
def Out.turn (o : Out) (k : Gm → HS → Out) : Out := match o with
  | .nxt Γ s => k Γ s
  | .cnt Γ s => k Γ s
  | .brk Γ s => .nxt Γ s
  | .ret d s => .ret d s
  | .exc c fs Γ s => .exc c fs Γ s
  | .stuck => .stuck
/-! ### for -/
def forL {B : Bs} (g : XG B) (b : Gm → HS → Out) : List D → Gm → HS → Out
  | [], Γ, s => .nxt Γ s
  | d :: ds, Γ, s => match g.as d with
    | none => .stuck
    | some l => (b (setGm Γ l) s).turn (forL g b ds)
def HypS (B : Bs) (w : Wd) (Z : Zs) (F : Hp) (Wx : WX) (D' : Ends) (o : Out) : Prop := match o with
  | .nxt Γ s => (∀ F' H' σ', Ex F F' → Good B w Z F' H' σ' Γ s → D'.nx σ' H')
  | .brk Γ s => (∀ F' H' σ', Ex F F' → Good B w Z F' H' σ' Γ s → D'.bk σ' H')
  | .cnt Γ s => (∀ F' H' σ', Ex F F' → Good B w Z F' H' σ' Γ s → D'.ct σ' H')
  | .ret d s => (∀ v F' H', Ex F F' → Gone B w Z F' H' s → Rep B w F' d v → D'.rt v H')
  | .exc c fs Γ s => (∀ od F' H' σ', Ex F F' → Good B w Z F' H' σ' Γ s → ExAt B w F' fs od → Wx (.ref (B.ca c)) od σ' H')
  | .stuck => False
theorem okS_of {B : Bs} {w : Wd} {Z : Zs} {F : Hp} {Wx : WX} {D' : Ends} {t : Prop} {o : Out} (h : HypS B w Z F Wx D' o → t) : OkS B w Z F Wx D' t o := by
  cases o with
  | stuck => trivial
  | _ => exact h
theorem OkS.use {B : Bs} {w : Wd} {Z : Zs} {F : Hp} {Wx : WX} {D' : Ends} {t : Prop} {o : Out} (h : OkS B w Z F Wx D' t o) (k : HypS B w Z F Wx D' o) : t := by
  cases o with
  | stuck => exact k.elim
  | _ => exact h k
theorem HypS.mono {B : Bs} {w : Wd} {Z : Zs} {F F1 : Hp} {Wx : WX} {D' : Ends} {o : Out} (e : Ex F F1) (h : HypS B w Z F Wx D' o) : HypS B w Z F1 Wx D' o := by
  cases o with
  | stuck => exact h
  | nxt _ _ => exact fun F' H' σ' e' => h F' H' σ' (e.trans e')
  | brk _ _ => exact fun F' H' σ' e' => h F' H' σ' (e.trans e')
  | cnt _ _ => exact fun F' H' σ' e' => h F' H' σ' (e.trans e')
  | ret _ _ => exact fun v F' H' e' => h v F' H' (e.trans e')
  | exc _ _ _ _ => exact fun od F' H' σ' e' => h od F' H' σ' (e.trans e')
def Res.outL (r : Res) (Γ : Gm) (k : List D → HS → Out) : Out := match r with
  | .ret (.lst ds) s => k ds s
  | .exc c fs s => .exc c fs Γ s
  | _ => .stuck
theorem drop_at {α : Type} {l : List α} {i : Nat} (hi : i < l.length) : l.drop i = l[i] :: l.drop (i + 1) := List.drop_eq_getElem_cons hi
def XS.for {B : Bs} (it : XI B) (g : XG B) (b : XS B) : XS B where
  ts := fun Wx => tFor (it.ti Wx) g.tg (b.ts Wx)
  ev := fun Γ s => (it.ev Γ s).outL Γ fun ds s1 => forL g b.ev ds Γ s1
  ok := fun {w Z F H σ Γ s} Wx D' gd => by
    have h := it.ok Wx gd.fh gd.st gd.sl
    cases hr : it.ev Γ s with
    | stuck => trivial
    | exc c fs s' =>
      rw [hr] at h
      exact fun hx => h (fun od F' H' a b c => hx od F' H' σ a.ff (gd.step a b) c) _
    | ret d s1 =>
      rw [hr] at h
      cases d with
      | lst ds =>
        show OkS B w Z F Wx D' _ (forL g b.ev ds Γ s1)
        refine okS_of fun hyp => h _ fun J F1 H1 a st1 yl => ?_
        have hyp1 := hyp.mono a.ff
        refine ⟨fun i m σ' H' => ∃ F' Γ' s', Ex F1 F' ∧ Good B w Z F' H' σ' Γ' s' ∧ m = ds.length - i ∧ i ≤ ds.length ∧ HypS B w Z F' Wx D' (forL g b.ev (ds.drop i) Γ' s'),
          ⟨ds.length, F1, Γ, s1, Ex.refl F1, gd.step a st1, by simp, Nat.zero_le _, by rw [List.drop_zero]; exact hyp1⟩, ?_⟩
        rintro i m σ' H' ⟨F', Γ', s', e', g', rfl, hi, hy⟩
        obtain ⟨y1, y2⟩ := yl F' H' e' g'.fh
        by_cases hlt : i < ds.length
        · rw [drop_at hlt] at hy
          obtain ⟨go, yi⟩ := y1 i ds[i] (List.getElem?_eq_getElem hlt)
          unfold forL at hy
          cases hl : g.as ds[i] with
          | none => rw [hl] at hy; exact hy.elim
          | some l =>
            rw [hl] at hy
            refine .inr ⟨go, fun σ2 H2 => ∃ F2 Γ2 s2, Ex F1 F2 ∧ Good B w Z F2 H2 σ2 Γ2 s2 ∧ HypS B w Z F2 Wx D' (forL g b.ev (ds.drop (i + 1)) Γ2 s2),
              fun σ2 H2 ⟨F2, Γ2, s2, e2, g2, h2⟩ => ⟨ds.length - (i + 1), by omega, F2, Γ2, s2, e2, g2, rfl, hlt, h2⟩, fun x H2 hx => ?_⟩
            obtain ⟨F2, st2, kp2, r2⟩ := yi x H2 hx
            have g2 := g'.step st2 (kp2 _ g'.st)
            obtain ⟨l', as2, q2⟩ := g.ok hl g2.fh r2
            refine q2 σ' _ ?_
            have g3 := g2.sets as2
            have hb := b.ok Wx { D' with nx := fun σ2 H2 => ∃ F2 Γ2 s2, Ex F1 F2 ∧ Good B w Z F2 H2 σ2 Γ2 s2 ∧ HypS B w Z F2 Wx D' (forL g b.ev (ds.drop (i + 1)) Γ2 s2), ct := fun σ2 H2 => ∃ F2 Γ2 s2, Ex F1 F2 ∧ Good B w Z F2 H2 σ2 Γ2 s2 ∧ HypS B w Z F2 Wx D' (forL g b.ev (ds.drop (i + 1)) Γ2 s2), bk := D'.nx } g3
            refine hb.use ?_
            have eF : Ex F' F2 := st2.ff
            have hy2 : HypS B w Z F' Wx D' ((b.ev (setGm Γ' l) s').turn (forL g b.ev (ds.drop (i + 1)))) := hy
            cases ho : b.ev (setGm Γ' l) s' with
            | stuck => rw [ho] at hy2; exact hy2.elim
            | nxt Γ4 s4 => rw [ho] at hy2; exact fun F4 H4 σ4 e4 g4 => ⟨F4, Γ4, s4, (e'.trans eF).trans e4, g4, hy2.mono (eF.trans e4)⟩
            | cnt Γ4 s4 => rw [ho] at hy2; exact fun F4 H4 σ4 e4 g4 => ⟨F4, Γ4, s4, (e'.trans eF).trans e4, g4, hy2.mono (eF.trans e4)⟩
            | brk Γ4 s4 => rw [ho] at hy2; exact fun F4 H4 σ4 e4 g4 => hy2 F4 H4 σ4 (eF.trans e4) g4
            | ret d4 s4 => rw [ho] at hy2; exact fun v F4 H4 e4 g4 r4 => hy2 v F4 H4 (eF.trans e4) g4 r4
            | exc c4 f4 Γ4 s4 => rw [ho] at hy2; exact fun od F4 H4 σ4 e4 g4 r4 => hy2 od F4 H4 σ4 (eF.trans e4) g4 r4
        · have e : i = ds.length := by omega
          subst e
          rw [List.drop_length] at hy
          exact .inl ⟨y2, hy F' H' σ' (Ex.refl F') g'⟩
      | _ => trivial
/-! ### while -/
def whileL (t : Gm → HS → Res) (b : Gm → HS → Out) : Nat → Gm → HS → Out
  | 0, _, _ => .stuck
  | n + 1, Γ, s => (t Γ s).outB Γ fun c s1 => if c = true then (b Γ s1).turn (whileL t b n) else .nxt Γ s1
def XS.while {B : Bs} (n : Nat) (t : XT B) (b : XS B) : XS B where
  ts := fun Wx => tWhile (t.tt Wx) (b.ts Wx)
  ev := whileL t.ev b.ev n
  ok := fun {w Z F H σ Γ s} Wx D' gd => by
    refine okS_of fun hyp => ?_
    refine ⟨fun m σ' H' => ∃ F' Γ' s', Ex F F' ∧ Good B w Z F' H' σ' Γ' s' ∧ HypS B w Z F' Wx D' (whileL t.ev b.ev m Γ' s'), ⟨n, F, Γ, s, Ex.refl F, gd, hyp⟩, ?_⟩
    rintro m σ' H' ⟨F', Γ', s', e', g', hy⟩
    cases m with
    | zero => exact hy.elim
    | succ m =>
      unfold whileL at hy
      have h := t.ok Wx g'.fh g'.st g'.sl
      cases hr : t.ev Γ' s' with
      | stuck => rw [hr] at hy; exact hy.elim
      | exc c fs s1 =>
        rw [hr] at hy h
        exact h (fun od F1 H1 a b c => hy od F1 H1 σ' a.ff (g'.step a b) c) _
      | ret d s1 =>
        rw [hr] at hy h
        cases d with
        | bl c =>
          refine h _ fun F1 H1 a st1 => ?_
          have g1 := g'.step a st1
          cases c with
          | false =>
            rw [if_neg Bool.false_ne_true]
            exact hy F1 H1 σ' a.ff g1
          | true =>
            rw [if_pos rfl]
            refine ⟨fun σ2 H2 => ∃ F2 Γ2 s2, Ex F F2 ∧ Good B w Z F2 H2 σ2 Γ2 s2 ∧ HypS B w Z F2 Wx D' (whileL t.ev b.ev m Γ2 s2), fun σ2 H2 h2 => ⟨m, Nat.lt_succ_self m, h2⟩, ?_⟩
            refine (b.ok Wx { D' with nx := fun σ2 H2 => ∃ F2 Γ2 s2, Ex F F2 ∧ Good B w Z F2 H2 σ2 Γ2 s2 ∧ HypS B w Z F2 Wx D' (whileL t.ev b.ev m Γ2 s2), ct := fun σ2 H2 => ∃ F2 Γ2 s2, Ex F F2 ∧ Good B w Z F2 H2 σ2 Γ2 s2 ∧ HypS B w Z F2 Wx D' (whileL t.ev b.ev m Γ2 s2), bk := D'.nx } g1).use ?_
            have eF : Ex F' F1 := a.ff
            have hy2 : HypS B w Z F' Wx D' ((b.ev Γ' s1).turn (whileL t.ev b.ev m)) := hy
            cases ho : b.ev Γ' s1 with
            | stuck => rw [ho] at hy2; exact hy2.elim
            | nxt Γ4 s4 => rw [ho] at hy2; exact fun F4 H4 σ4 e4 g4 => ⟨F4, Γ4, s4, (e'.trans eF).trans e4, g4, hy2.mono (eF.trans e4)⟩
            | cnt Γ4 s4 => rw [ho] at hy2; exact fun F4 H4 σ4 e4 g4 => ⟨F4, Γ4, s4, (e'.trans eF).trans e4, g4, hy2.mono (eF.trans e4)⟩
            | brk Γ4 s4 => rw [ho] at hy2; exact fun F4 H4 σ4 e4 g4 => hy2 F4 H4 σ4 (eF.trans e4) g4
            | ret d4 s4 => rw [ho] at hy2; exact fun v F4 H4 e4 g4 r4 => hy2 v F4 H4 (eF.trans e4) g4 r4
            | exc c4 f4 Γ4 s4 => rw [ho] at hy2; exact fun od F4 H4 σ4 e4 g4 r4 => hy2 od F4 H4 σ4 (eF.trans e4) g4 r4
        | _ => exact hy.elim
end Dv

set_option Elab.async false
set_option linter.all false
set_option maxRecDepth 100000
/-! # New lists and dicts, and what is changed of them while they are a frame's own -/
namespace Dv
open PySem PySem.Spec PyProof.Rows L2 Evl

theorem Off.fresh {w : Wd} {s : HS} {F H : Hp} {p : Addr} (st : StAt w s F H) (hp : H p = none) : Off w p := by
  unfold StAt at st
  unfold Off
  cases w with
  | none => trivial
  | some q =>
    obtain ⟨ha, ca⟩ := q
    obtain ⟨_, _, _, h4, h5⟩ := st
    exact ⟨(ne_of_none h4 hp).symm, (ne_of_none h5 hp).symm⟩
theorem StAt.frz {w : Wd} {s : HS} {F H : Hp} {p : Addr} {o : HO} (st : StAt w s F H) (hp : Off w p) : StAt w s (upd F p o) H := by
  unfold StAt at st ⊢
  unfold Off at hp
  cases w with
  | none => trivial
  | some q =>
    obtain ⟨ha, ca⟩ := q
    obtain ⟨h1, h2, h3, h4, h5⟩ := st
    exact ⟨h1, by rw [upd_ne hp.1.symm]; exact h2, by rw [upd_ne hp.2.symm]; exact h3, h4, h5⟩
theorem StAt.mut {w : Wd} {s : HS} {F H : Hp} {p : Addr} {o : HO} (st : StAt w s F H) (hp : Off w p) : StAt w s F (upd H p o) := by
  unfold StAt at st ⊢
  unfold Off at hp
  cases w with
  | none => trivial
  | some q =>
    obtain ⟨ha, ca⟩ := q
    obtain ⟨h1, h2, h3, h4, h5⟩ := st
    exact ⟨h1, h2, h3, by rw [upd_ne hp.1.symm]; exact h4, by rw [upd_ne hp.2.symm]; exact h5⟩
/-- a new object is frozen -/
theorem Step.frz {w : Wd} {F H F' H' : Hp} {p : Addr} {o : HO} (a : Step w F H F' H') (hn : H p = none) (h1 : F' p = none) (h2 : H' p = some o) : Step w F H (upd F' p o) H' := by
  refine ⟨a.ff.trans (Ex.new h1), fun x u e => ?_, fun x u hx hf ho => ?_⟩
  · by_cases xp : x = p
    · subst xp; rw [upd_same] at e; cases e; exact h2
    · rw [upd_ne xp] at e; exact a.fh x u e
  · have xp : x ≠ p := ne_of_none hx hn
    rw [upd_ne xp]
    exact a.rest x u hx hf ho

/-- a list, new since H, that is not frozen -/
def NewL (B : Bs) (w : Wd) (H : Hp) (d : D) (v : V) (F' H' : Hp) : Prop := ∃ ds p xs, d = .lst ds ∧ v = .ref p ∧ H p = none ∧ F' p = none ∧ Off w p ∧ H' p = some (.lst xs) ∧ Reps B w F' ds xs
/-- an expression that makes a new list -/
structure XN (B : Bs) where
  te : WX → TE
  ev : Gm → HS → Res
  ok : ∀ {w : Wd} {F H : Hp} {σ : L2.St} {Γ : Gm} {s : HS} (Wx : WX), Ex F H → StAt w s F H → SlsAt B w F H Γ σ → OkP B w F H σ Wx (NewL B w H) (te Wx σ H) (ev Γ s)
def XE.ofN {B : Bs} (q : XN B) : XE B where
  te := q.te
  ev := q.ev
  ok := fun {w F H σ Γ s} Wx e st sl => by
    have h := q.ok Wx e st sl
    cases hr : q.ev Γ s with
    | stuck => trivial
    | exc c fs s' => rw [hr] at h; exact h
    | ret d s' =>
      rw [hr] at h
      exact fun Q k => h Q fun v F' H' a b ⟨ds, p, xs, e1, e2, h1, h2, h3, h4, r⟩ => by
        subst e1 e2
        exact k (.ref p) (upd F' p (.lst xs)) H' (a.frz h1 h2 h4) (b.frz h3) (rep_lst.mpr ⟨p, xs, rfl, upd_same, r.mono (Ex.new h2)⟩)
theorem NewL.mk {B : Bs} {w : Wd} {F0 H0 F H : Hp} {s : HS} {σ : L2.St} {Wx : WX} {xs : List V} {ds : List D} (e0 : Ex F0 H0) (a : Step w F0 H0 F H) (st : StAt w s F H) (r : Reps B w F ds xs) :
    OkP B w F H σ Wx (NewL B w H0) (fun Q => ∀ p, H p = none → Q (.ref p) (upd H p (.lst xs))) (.ret (.lst ds) s) := fun Q q p hp =>
  q (.ref p) F (upd H p (.lst xs)) (Step.newO a.fh hp) (st.newO hp) ⟨ds, p, xs, rfl, rfl, a.fresh e0 st hp, fresh_back a.fh hp, Off.fresh st hp, upd_same, r⟩
/-- [a, b, ..] -/
def XN.lst {B : Bs} (ps : List (XE B)) (hl : ps.length ≤ 100000 := by exact Nat.le_of_ble_eq_true rfl) : XN B where
  te := fun Wx => tLst (tas Wx ps)
  ev := fun Γ s => evs Γ ps s fun ds s1 => .ret (.lst ds) s1
  ok := fun {w F H σ Γ s} Wx e st sl => evs_okP Wx ps (u := fun xs H1 Q => xs.length ≤ sizeLine ∧ ∀ p, H1 p = none → Q (.ref p) (upd H1 p (.lst xs))) e st sl fun ds s1 vs F1 H1 a st1 r hn =>
    OkP.imp (NewL.mk e a st1 r) fun Q q => ⟨sz_of (by rw [r.length, hn]; exact hl), q⟩

/-! ### a frame's own list -/
section
variable {B : Bs} {w : Wd} {Z : Zs} {F H : Hp} {σ : L2.St} {Γ : Gm} {s : HS}
/-- a new object comes to a slot -/
theorem Good.setO {i : Nat} {t : Sl} {p : Addr} (hnio : ∀ c fs, t ≠ .io c fs) (g : Good B w Z F H σ Γ s) (hs : SlAt B w F H t (some (.ref p))) (hz : Z p = none) (hno : ∀ (j : Nat) (u : Sl), Γ[j]? = some u → owned u = true → σ[j]? ≠ some (some (.ref p))) :
    Good B w Z F H (σ.set i (some (.ref p))) (Γ.set i t) s := by
  refine ⟨g.fh, g.st, fun j u e => ?_, g.zz, fun j u q e ho hp => ?_, fun j k u v q e e' ho ho' hp hp' => ?_, by rw [List.length_set, List.length_set, g.ln], fun c fs e => ?_⟩
  · rw [List.getElem?_set] at e
    by_cases hij : i = j
    · subst hij
      rw [if_pos rfl] at e
      by_cases hi : i < Γ.length
      · rw [if_pos hi] at e
        cases e
        exact ⟨some (.ref p), by rw [List.getElem?_set_self (by rw [g.ln]; exact hi)], hs⟩
      · rw [if_neg hi] at e; cases e
    · rw [if_neg hij] at e
      obtain ⟨x, h1, h2⟩ := g.sl j u e
      exact ⟨x, by rw [List.getElem?_set_ne hij]; exact h1, h2⟩
  · by_cases hij : i = j
    · subst hij
      by_cases hi : i < σ.length
      · rw [List.getElem?_set_self hi] at hp; cases hp; exact hz
      · rw [List.getElem?_eq_none (by simp; omega)] at hp; cases hp
    · rw [List.getElem?_set_ne hij] at e hp
      exact g.zo j u q e ho hp
  · by_cases hij : i = j
    · by_cases hik : i = k
      · rw [← hij, hik]
      · exfalso
        subst hij
        rw [List.getElem?_set_ne hik] at e' hp'
        by_cases hi : i < σ.length
        · rw [List.getElem?_set_self hi] at hp; cases hp; exact hno k v e' ho' hp'
        · rw [List.getElem?_eq_none (by simp; omega)] at hp; cases hp
    · by_cases hik : i = k
      · exfalso
        subst hik
        rw [List.getElem?_set_ne hij] at e hp
        by_cases hi : i < σ.length
        · rw [List.getElem?_set_self hi] at hp'; cases hp'; exact hno j u e ho hp
        · rw [List.getElem?_eq_none (by simp; omega)] at hp'; cases hp'
      · rw [List.getElem?_set_ne hij] at e hp
        rw [List.getElem?_set_ne hik] at e' hp'
        exact g.ow j k u v q e e' ho ho' hp hp'
  · by_cases hi : i = 0
    · subst hi
      rw [List.getElem?_set, if_pos rfl] at e
      split at e
      · cases e; exact absurd rfl (hnio c fs)
      · cases e
    · rw [List.getElem?_set_ne hi] at e ⊢
      exact g.me c fs e
/-- owned objects are old -/
theorem Good.old {p : Addr} (g : Good B w Z F H σ Γ s) (hp : H p = none) (j : Nat) (u : Sl) (e : Γ[j]? = some u) (ho : owned u = true) : σ[j]? ≠ some (some (.ref p)) := fun h => by
  obtain ⟨x, h1, h2⟩ := g.sl j u e
  rw [h] at h1
  cases h1
  cases u with
  | no => cases ho
  | fr _ => cases ho
  | lo ds => obtain ⟨q, xs, e1, _, _, h3, _⟩ := h2; cases e1; rw [hp] at h3; cases h3
  | dco ds => obtain ⟨q, xs, e1, _, _, h3, _⟩ := h2; cases e1; rw [hp] at h3; cases h3
  | io c fs => obtain ⟨q, dx, xs, e1, _, _, h3, _⟩ := h2; cases e1; rw [hp] at h3; cases h3
/-- the own object of slot i changes -/
theorem Good.upd {i : Nat} {t t' : Sl} {p : Addr} {o : HO} (hio : ∀ c fs, t' = .io c fs → ∃ c' fs', t = .io c' fs') (g : Good B w Z F H σ Γ s) (hi : Γ[i]? = some t) (ht : owned t = true) (hp : σ[i]? = some (some (.ref p))) (hF : F p = none) (ho : Off w p) (hs : SlAt B w F (upd H p o) t' (some (.ref p))) :
    Good B w Z F (L2.upd H p o) σ (Γ.set i t') s := by
  have hZ := g.zo i t p hi ht hp
  refine ⟨Ex.mut g.fh hF, g.st.mut ho, fun j u e => ?_, fun a u hz => ?_, fun j u q e hu hq => ?_, fun j k u v q e e' hu hv hq hq' => ?_, by rw [List.length_set, g.ln], fun c fs e => ?_⟩
  · rw [List.getElem?_set] at e
    by_cases hij : i = j
    · subst hij
      rw [if_pos rfl] at e
      split at e
      · cases e; exact ⟨_, hp, hs⟩
      · cases e
    · rw [if_neg hij] at e
      obtain ⟨x, h1, h2⟩ := g.sl j u e
      refine ⟨x, h1, ?_⟩
      cases u with
      | no => trivial
      | fr d => exact h2
      | lo ds =>
        obtain ⟨q, xs, e1, e2, e3, e4, e5⟩ := h2
        subst e1
        have hne : q ≠ p := fun z => by subst z; exact hij (g.ow i j t _ q hi e ht rfl hp h1)
        exact ⟨q, xs, rfl, e2, e3, by rw [upd_ne hne]; exact e4, e5⟩
      | dco ds =>
        obtain ⟨q, xs, e1, e2, e3, e4, e5⟩ := h2
        subst e1
        have hne : q ≠ p := fun z => by subst z; exact hij (g.ow i j t _ q hi e ht rfl hp h1)
        exact ⟨q, xs, rfl, e2, e3, by rw [upd_ne hne]; exact e4, e5⟩
      | io c fs =>
        obtain ⟨q, dx, xs, e1, e2, e3, e4, e5⟩ := h2
        subst e1
        have hne : q ≠ p := fun z => by subst z; exact hij (g.ow i j t _ q hi e ht rfl hp h1)
        exact ⟨q, dx, xs, rfl, e2, e3, by rw [upd_ne hne]; exact e4, e5⟩
  · obtain ⟨h1, h2, h3⟩ := g.zz a u hz
    have hne : a ≠ p := fun z => by subst z; rw [hZ] at hz; cases hz
    exact ⟨h1, by rw [upd_ne hne]; exact h2, h3⟩
  · by_cases hij : i = j
    · subst hij
      rw [hp] at hq; cases hq; exact hZ
    · rw [List.getElem?_set_ne hij] at e
      exact g.zo j u q e hu hq
  · have fix : ∀ {m : Nat} {x : Sl}, (Γ.set i t')[m]? = some x → owned x = true → ∃ y, Γ[m]? = some y ∧ owned y = true := fun {m x} e hx => by
      by_cases him : i = m
      · subst him; exact ⟨t, hi, ht⟩
      · rw [List.getElem?_set_ne him] at e; exact ⟨x, e, hx⟩
    obtain ⟨y1, a1, b1⟩ := fix e hu
    obtain ⟨y2, a2, b2⟩ := fix e' hv
    exact g.ow j k y1 y2 q a1 a2 b1 b2 hq hq'
  · by_cases hz : i = 0
    · subst hz
      rw [List.getElem?_set, if_pos rfl] at e
      split at e
      · obtain ⟨c', fs', rfl⟩ := hio c fs (Option.some.inj e)
        exact g.me c' fs' hi
      · cases e
    · rw [List.getElem?_set_ne hz] at e
      exact g.me c fs e
/-- slot i is frozen -/
def frzS : Sl → Sl
  | .lo ds => .fr (.lst ds)
  | .dco ds => .fr (.dic ds)
  | .io c fs => .fr (.ins c fs)
  | t => t
def frzG (Γ : Gm) (i : Nat) : Gm := match Γ[i]? with
  | some t => Γ.set i (frzS t)
  | none => Γ
theorem set_self {α : Type} : ∀ {l : List α} {i : Nat} {x : α}, l[i]? = some x → l.set i x = l
  | [], _, _, h => by simp at h
  | a :: l, 0, x, h => by simp at h; subst h; rfl
  | a :: l, i + 1, x, h => by
    have h' : l[i]? = some x := by simpa using h
    show a :: l.set i x = a :: l
    rw [set_self h']
theorem Good.frz (g : Good B w Z F H σ Γ s) (i : Nat) : ∃ F', Ex F F' ∧ Good B w Z F' H σ (frzG Γ i) s := by
  unfold frzG
  cases hi : Γ[i]? with
  | none => exact ⟨F, Ex.refl F, g⟩
  | some t =>
    show ∃ F', Ex F F' ∧ Good B w Z F' H σ (Γ.set i (frzS t)) s
    by_cases ht : owned t = true
    · obtain ⟨x, h1, h2⟩ := g.sl i t hi
      obtain ⟨p, o, rfl, hF, hO, hH⟩ : ∃ p o, x = some (.ref p) ∧ F p = none ∧ Off w p ∧ H p = some o := by
        cases t with
        | no => cases ht
        | fr _ => cases ht
        | lo ds => obtain ⟨q, xs, e1, e2, e3, e4, _⟩ := h2; exact ⟨q, _, e1, e2, e3, e4⟩
        | dco ds => obtain ⟨q, xs, e1, e2, e3, e4, _⟩ := h2; exact ⟨q, _, e1, e2, e3, e4⟩
        | io c fs => obtain ⟨q, dx, xs, e1, e2, e3, e4, _⟩ := h2; exact ⟨q, _, e1, e2, e3, e4⟩
      have hZ := g.zo i t p hi ht h1
      have ex : Ex F (L2.upd F p o) := Ex.new hF
      refine ⟨L2.upd F p o, ex, ⟨fun a u e => ?_, g.st.frz hO, fun j u e => ?_, fun a u hz => ?_, fun j u q e hu hq => ?_, fun j k u v q e e' hu hv hq hq' => ?_, by rw [List.length_set, g.ln], fun c fs e => ?_⟩⟩
      · by_cases ap : a = p
        · subst ap; rw [upd_same] at e; cases e; exact hH
        · rw [upd_ne ap] at e; exact g.fh a u e
      · rw [List.getElem?_set] at e
        by_cases hij : i = j
        · subst hij
          rw [if_pos rfl] at e
          split at e
          · cases e
            refine ⟨_, h1, ?_⟩
            cases t with
            | no => cases ht
            | fr _ => cases ht
            | lo ds =>
              obtain ⟨q, xs, e1, e2, e3, e4, e5⟩ := h2
              cases e1
              rw [e4] at hH; cases hH
              exact ⟨_, rfl, rep_lst.mpr ⟨p, xs, rfl, upd_same, e5.mono ex⟩⟩
            | dco ds =>
              obtain ⟨q, xs, e1, e2, e3, e4, e5⟩ := h2
              cases e1
              rw [e4] at hH; cases hH
              exact ⟨_, rfl, rep_dic.mpr ⟨p, xs, rfl, upd_same, e5.mono ex⟩⟩
            | io c fs =>
              obtain ⟨q, dx, xs, e1, e2, e3, e4, e5⟩ := h2
              cases e1
              rw [e4] at hH; cases hH
              exact ⟨_, rfl, rep_ins.mpr ⟨p, dx, xs, rfl, upd_same, e5.mono ex⟩⟩
          · cases e
        · rw [if_neg hij] at e
          obtain ⟨y, k1, k2⟩ := g.sl j u e
          refine ⟨y, k1, ?_⟩
          cases u with
          | no => trivial
          | fr d => obtain ⟨v, e1, r⟩ := k2; exact ⟨v, e1, r.mono ex⟩
          | lo ds =>
            obtain ⟨q, xs, e1, e2, e3, e4, e5⟩ := k2
            subst e1
            have hne : q ≠ p := fun z => by subst z; exact hij (g.ow i j t _ q hi e ht rfl h1 k1)
            exact ⟨q, xs, rfl, by rw [upd_ne hne]; exact e2, e3, e4, e5.mono ex⟩
          | dco ds =>
            obtain ⟨q, xs, e1, e2, e3, e4, e5⟩ := k2
            subst e1
            have hne : q ≠ p := fun z => by subst z; exact hij (g.ow i j t _ q hi e ht rfl h1 k1)
            exact ⟨q, xs, rfl, by rw [upd_ne hne]; exact e2, e3, e4, e5.mono ex⟩
          | io c fs =>
            obtain ⟨q, dx, xs, e1, e2, e3, e4, e5⟩ := k2
            subst e1
            have hne : q ≠ p := fun z => by subst z; exact hij (g.ow i j t _ q hi e ht rfl h1 k1)
            exact ⟨q, dx, xs, rfl, by rw [upd_ne hne]; exact e2, e3, e4, e5.mono ex⟩
      · obtain ⟨k1, k2, k3⟩ := g.zz a u hz
        have hne : a ≠ p := fun z => by subst z; rw [hZ] at hz; cases hz
        exact ⟨by rw [upd_ne hne]; exact k1, k2, k3⟩
      · by_cases hij : i = j
        · subst hij
          rw [List.getElem?_set, if_pos rfl] at e
          split at e
          · cases e; cases t <;> first | cases hu | cases ht
          · cases e
        · rw [List.getElem?_set_ne hij] at e
          exact g.zo j u q e hu hq
      · have fix : ∀ {m : Nat} {x : Sl}, (Γ.set i (frzS t))[m]? = some x → owned x = true → Γ[m]? = some x := fun {m x} e hx => by
          by_cases him : i = m
          · subst him
            rw [List.getElem?_set, if_pos rfl] at e
            split at e
            · cases e; cases t <;> first | cases hx | cases ht
            · cases e
          · rw [List.getElem?_set_ne him] at e; exact e
        exact g.ow j k u v q (fix e hu) (fix e' hv) hu hv hq hq'
      · by_cases hz : i = 0
        · subst hz
          rw [List.getElem?_set, if_pos rfl] at e
          split at e
          · cases t <;> first | (cases e; done) | cases ht
          · cases e
        · rw [List.getElem?_set_ne hz] at e
          exact g.me c fs e
    · have e : frzS t = t := by cases t <;> first | rfl | exact absurd rfl ht
      rw [e, set_self hi]
      exact ⟨F, Ex.refl F, g⟩
end
/-- from here on slot i is no more changed -/
def XS.frz {B : Bs} (i : Nat) (p : XS B) : XS B where
  ts := p.ts
  ev := fun Γ s => p.ev (frzG Γ i) s
  ok := fun {w Z F H σ Γ s} Wx D' g => by
    obtain ⟨F', e, g'⟩ := g.frz i
    exact (p.ok Wx D' g').back e
/-- x = a new list, that is changed later -/
def XS.setN {B : Bs} (i : Nat) (q : XN B) : XS B where
  ts := fun Wx => tAsg (q.te Wx) (gName i)
  ev := fun Γ s => (q.ev Γ s).outL Γ fun ds s1 => .nxt (Γ.set i (.lo ds)) s1
  ok := fun {w Z F H σ Γ s} Wx D' g => by
    have h := q.ok Wx g.fh g.st g.sl
    cases hr : q.ev Γ s with
    | stuck => trivial
    | exc c fs s' =>
      rw [hr] at h
      exact fun hx => h (fun od F' H' a b c => hx od F' H' σ a.ff (g.step a b) c) _
    | ret d s1 =>
      rw [hr] at h
      cases d with
      | lst ds =>
        refine fun k => h _ fun v F' H' a b ⟨ds', p, xs, e1, e2, h1, h2, h3, h4, r⟩ => ?_
        cases e1
        subst e2
        refine k F' H' _ a.ff ?_
        have g1 := g.step a b
        refine g1.setO (fun _ _ z => nomatch z) ⟨p, xs, rfl, h2, h3, h4, r⟩ ?_ fun j u e ho hp => g.old h1 j u e ho hp
        cases hz : Z p with
        | none => rfl
        | some o => rw [(g.zz p o hz).2.1] at h1; cases h1
      | _ => trivial
/-- x.append(e) -/
def XS.app {B : Bs} (i : Nat) (p : XE B) : XS B where
  ts := fun Wx => tDrop (tBM B.K "list" rAppend (tVar i) (tCons (p.te Wx) tNil))
  ev := fun Γ s => match Γ[i]? with
    | some (.lo ds) => if ds.length < 100000 then (p.ev Γ s).out Γ fun d s1 => .nxt (Γ.set i (.lo (ds ++ [d]))) s1 else .stuck
    | _ => .stuck
  ok := fun {w Z F H σ Γ s} Wx D' g => by
    cases hi : Γ[i]? with
    | none => trivial
    | some t =>
      cases t with
      | lo ds =>
        show OkS B w Z F Wx D' _ (if ds.length < 100000 then (p.ev Γ s).out Γ fun d s1 => .nxt (Γ.set i (.lo (ds ++ [d]))) s1 else .stuck)
        by_cases hl : ds.length < 100000
        · rw [if_pos hl]
          obtain ⟨x, h1, q, xs, e1, e2, e3, e4, e5⟩ := g.sl i _ hi
          subst e1
          refine OkS.imp (OkE.stm (D' := D') (u := fun v H2 => rAppend (.ref q) [v] H2 fun _ H1 => D'.nx σ H1) (k := fun d s1 => .nxt (Γ.set i (.lo (ds ++ [d]))) s1) g (p.ok Wx g.fh g.st g.sl) fun d s1 v F1 H1 _ a g1 r => ?_) fun z => ⟨.ref q, h1, .inl ⟨rfl, xs, sq_of e4⟩, z⟩
          obtain ⟨k1, k2⟩ := a.rest q _ e4 e2 e3
          exact fun k => ⟨q, xs, v, rfl, rfl, k2, sz_lt (by rw [e5.length]; exact hl), k F1 _ σ (Ex.refl F1) (g1.upd (fun _ _ z => nomatch z) hi rfl h1 k1 e3 ⟨q, xs ++ [v], rfl, k1, e3, upd_same, (e5.mono a.ff).snoc r⟩)⟩
        · rw [if_neg hl]; trivial
      | _ => trivial
/-- x.pop(e), its value dropped -/
def popAtD (ds : List D) (i : Int) : Option (List D) := match seqIndex? i ds.length with
  | some k => if -(2 ^ 63) ≤ i ∧ i < 2 ^ 63 ∧ k < ds.length then some (ds.eraseIdx k) else none
  | none => none
theorem Reps.erase {B : Bs} {w : Wd} {F : Hp} : ∀ {ds : List D} {vs : List V} (k : Nat), Reps B w F ds vs → Reps B w F (ds.eraseIdx k) (vs.eraseIdx k)
  | [], _, k, h => by rw [reps_nil.mp h]; exact reps_nil.mpr rfl
  | d :: ds, _, 0, h => by
    obtain ⟨v, r, rfl, _, h2⟩ := reps_cons.mp h
    exact h2
  | d :: ds, _, k + 1, h => by
    obtain ⟨v, r, rfl, h1, h2⟩ := reps_cons.mp h
    exact reps_cons.mpr ⟨v, r.eraseIdx k, rfl, h1, Reps.erase k h2⟩
def XS.popAt {B : Bs} (i : Nat) (p : XE B) : XS B where
  ts := fun Wx => tDrop (tBM B.K "list" rPopAt (tVar i) (tCons (p.te Wx) tNil))
  ev := fun Γ s => match Γ[i]? with
    | some (.lo ds) => (p.ev Γ s).out Γ fun d s1 => match d with
      | .int k => match popAtD ds k with
        | some ds' => .nxt (Γ.set i (.lo ds')) s1
        | none => .stuck
      | _ => .stuck
    | _ => .stuck
  ok := fun {w Z F H σ Γ s} Wx D' g => by
    cases hi : Γ[i]? with
    | none => trivial
    | some t =>
      cases t with
      | lo ds =>
        obtain ⟨x, h1, q, xs, e1, e2, e3, e4, e5⟩ := g.sl i _ hi
        subst e1
        refine OkS.imp (OkE.stm (D' := D') (u := fun v H2 => rPopAt (.ref q) [v] H2 fun _ H1 => D'.nx σ H1) (k := fun d s1 => match d with
          | .int k => match popAtD ds k with
            | some ds' => .nxt (Γ.set i (.lo ds')) s1
            | none => .stuck
          | _ => .stuck) g (p.ok Wx g.fh g.st g.sl) fun d s1 v F1 H1 _ a g1 r => ?_) fun z => ⟨.ref q, h1, .inl ⟨rfl, xs, sq_of e4⟩, z⟩
        cases d with
        | int k =>
          cases rep_int.mp r
          show OkS B w Z F1 Wx D' _ (match popAtD ds k with
            | some ds' => .nxt (Γ.set i (.lo ds')) s1
            | none => .stuck)
          cases hp : popAtD ds k with
          | none => trivial
          | some ds' =>
            unfold popAtD at hp
            cases hk : seqIndex? k ds.length with
            | none => rw [hk] at hp; cases hp
            | some j =>
              have hp' : (if -(2 ^ 63) ≤ k ∧ k < 2 ^ 63 ∧ j < ds.length then some (ds.eraseIdx j) else none) = some ds' := by rw [hk] at hp; exact hp
              by_cases hc : -(2 ^ 63) ≤ k ∧ k < 2 ^ 63 ∧ j < ds.length
              · rw [if_pos hc] at hp'
                cases hp'
                obtain ⟨k1, k2⟩ := a.rest q _ e4 e2 e3
                have hl := e5.length
                exact fun kk => ⟨q, xs, k, j, xs[j]'(by omega), rfl, rfl, k2, hc.1, hc.2.1, by rw [hl]; exact hk, List.getElem?_eq_getElem (by omega), kk F1 _ σ (Ex.refl F1) (g1.upd (fun _ _ z => nomatch z) hi rfl h1 k1 e3 ⟨q, xs.eraseIdx j, rfl, k1, e3, upd_same, (e5.mono a.ff).erase j⟩)⟩
              · rw [if_neg hc] at hp'; cases hp'
        | _ => trivial
      | _ => trivial

/-! ### a look at all own objects as if they were frozen -/
def frzA (Γ : Gm) : Gm := Γ.map frzS
open Classical in
noncomputable def Fv (Γ : Gm) (σ : L2.St) (F H : Hp) : Hp := fun a => if ∃ (i : Nat) (t : Sl), Γ[i]? = some t ∧ owned t = true ∧ σ[i]? = some (some (.ref a)) then H a else F a
section
variable {B : Bs} {w : Wd} {F H : Hp} {σ : L2.St} {Γ : Gm} {s : HS}
theorem own_at (sl : SlsAt B w F H Γ σ) {i : Nat} {t : Sl} {a : Addr} (h1 : Γ[i]? = some t) (h2 : owned t = true) (h3 : σ[i]? = some (some (.ref a))) : F a = none ∧ Off w a ∧ ∃ o, H a = some o := by
  obtain ⟨x, k1, k2⟩ := sl i t h1
  rw [h3] at k1
  cases k1
  cases t with
  | no => cases h2
  | fr _ => cases h2
  | lo ds => obtain ⟨q, xs, e1, e2, e3, e4, _⟩ := k2; cases e1; exact ⟨e2, e3, _, e4⟩
  | dco ds => obtain ⟨q, xs, e1, e2, e3, e4, _⟩ := k2; cases e1; exact ⟨e2, e3, _, e4⟩
  | io c fs => obtain ⟨q, dx, xs, e1, e2, e3, e4, _⟩ := k2; cases e1; exact ⟨e2, e3, _, e4⟩
theorem Fv.up (sl : SlsAt B w F H Γ σ) : Ex F (Fv Γ σ F H) := fun a o e => by
  unfold Fv
  split
  · rename_i h
    obtain ⟨i, t, h1, h2, h3⟩ := h
    rw [(own_at sl h1 h2 h3).1] at e; cases e
  · exact e
theorem Fv.down (e : Ex F H) : Ex (Fv Γ σ F H) H := fun a o h => by
  unfold Fv at h
  split at h
  · exact h
  · exact e a o h
theorem Fv.st (st : StAt w s F H) (sl : SlsAt B w F H Γ σ) : StAt w s (Fv Γ σ F H) H := by
  have hoff : ∀ {a : Addr}, ¬ Off w a → Fv Γ σ F H a = F a := fun {a} ha => by
    unfold Fv
    rw [if_neg]
    rintro ⟨i, t, h1, h2, h3⟩
    exact ha (own_at sl h1 h2 h3).2.1
  unfold StAt at st ⊢
  cases w with
  | none => trivial
  | some q =>
    obtain ⟨ha, ca⟩ := q
    obtain ⟨h1, h2, h3, h4, h5⟩ := st
    refine ⟨h1, ?_, ?_, h4, h5⟩
    · rw [hoff (fun z => z.1 rfl)]; exact h2
    · rw [hoff (fun z => z.2 rfl)]; exact h3
theorem Fv.sl (sl : SlsAt B w F H Γ σ) : SlsAt B w (Fv Γ σ F H) H (frzA Γ) σ := fun i t e => by
  unfold frzA at e
  rw [List.getElem?_map] at e
  cases hi : Γ[i]? with
  | none => rw [hi] at e; cases e
  | some u =>
    rw [hi] at e
    cases e
    obtain ⟨x, h1, h2⟩ := sl i u hi
    refine ⟨x, h1, ?_⟩
    have up := Fv.up sl
    have at_ : ∀ {a : Addr}, owned u = true → x = some (.ref a) → Fv Γ σ F H a = H a := fun {a} ho hx => by
      unfold Fv
      rw [if_pos ⟨i, u, hi, ho, by rw [h1, hx]⟩]
    cases u with
    | no => trivial
    | fr d => obtain ⟨v, e1, r⟩ := h2; exact ⟨v, e1, r.mono up⟩
    | lo ds =>
      obtain ⟨q, xs, e1, e2, e3, e4, e5⟩ := h2
      exact ⟨_, e1, rep_lst.mpr ⟨q, xs, rfl, by rw [at_ rfl e1]; exact e4, e5.mono up⟩⟩
    | dco ds =>
      obtain ⟨q, xs, e1, e2, e3, e4, e5⟩ := h2
      exact ⟨_, e1, rep_dic.mpr ⟨q, xs, rfl, by rw [at_ rfl e1]; exact e4, e5.mono up⟩⟩
    | io c fs =>
      obtain ⟨q, dx, xs, e1, e2, e3, e4, e5⟩ := h2
      exact ⟨_, e1, rep_ins.mpr ⟨q, dx, xs, rfl, by rw [at_ rfl e1]; exact e4, e5.mono up⟩⟩
/-- back from the look: what stood stands -/
theorem Fv.back {F' H' : Hp} {s' : HS} (e : Ex F H) (st : StAt w s F H) (sl : SlsAt B w F H Γ σ) (a : Step w (Fv Γ σ F H) H F' H') (st' : StAt w s' F' H') : Step w F H F H' ∧ StAt w s' F H' := by
  have up := Fv.up sl
  refine ⟨⟨Ex.refl F, fun x o h => a.fh x o (a.ff x o (up x o h)), fun x o h1 h2 h3 => ⟨h2, ?_⟩⟩, ?_⟩
  · cases hv : Fv Γ σ F H x with
    | none => exact (a.rest x o h1 hv h3).2
    | some u =>
      have := Fv.down e x u hv
      rw [h1] at this
      cases this
      exact a.fh x _ (a.ff x _ hv)
  · unfold StAt at st st' ⊢
    cases w with
    | none => trivial
    | some q =>
      obtain ⟨ha, ca⟩ := q
      exact ⟨st.1, st.2.1, st.2.2.1, st'.2.2.2.1, st'.2.2.2.2⟩
end
def XT.view {B : Bs} (p : XT B) : XT B where
  tt := p.tt
  ev := fun Γ s => match p.ev (frzA Γ) s with
    | .ret (.bl b) s1 => .ret (.bl b) s1
    | _ => .stuck
  ok := fun {w F H σ Γ s} Wx e st sl => by
    have h := p.ok Wx (Fv.down e) (Fv.st st sl) (Fv.sl sl)
    cases hr : p.ev (frzA Γ) s with
    | ret d s1 =>
      rw [hr] at h
      cases d with
      | bl b => exact fun Q q => h Q fun F' H' a b' => let ⟨k1, k2⟩ := Fv.back e st sl a b'; q F H' k1 k2
      | _ => trivial
    | _ => trivial
def scal : D → Bool
  | .non => true
  | .bl _ => true
  | .int _ => true
  | .str _ => true
  | _ => false
theorem scal_rep {B : Bs} {w : Wd} {F F' : Hp} : ∀ {d : D} {v : V}, scal d = true → Rep B w F d v → Rep B w F' d v
  | .non, _, _, r => rep_non.mpr (rep_non.mp r)
  | .bl _, _, _, r => rep_bl.mpr (rep_bl.mp r)
  | .int _, _, _, r => rep_int.mpr (rep_int.mp r)
  | .str _, _, _, r => rep_str.mpr (rep_str.mp r)
/-- an expression whose value is no object -/
def XE.view {B : Bs} (p : XE B) : XE B where
  te := p.te
  ev := fun Γ s => match p.ev (frzA Γ) s with
    | .ret d s1 => if scal d = true then .ret d s1 else .stuck
    | _ => .stuck
  ok := fun {w F H σ Γ s} Wx e st sl => by
    have h := p.ok Wx (Fv.down e) (Fv.st st sl) (Fv.sl sl)
    cases hr : p.ev (frzA Γ) s with
    | ret d s1 =>
      rw [hr] at h
      show OkE B w F H σ Wx _ (if scal d = true then .ret d s1 else .stuck)
      by_cases hd : scal d = true
      · rw [if_pos hd]
        exact fun Q q => h Q fun v F' H' a b' r => let ⟨k1, k2⟩ := Fv.back e st sl a b'; q v F H' k1 k2 (scal_rep hd r)
      · rw [if_neg hd]; trivial
    | _ => trivial
end Dv

set_option Elab.async false
set_option linter.all false
set_option maxRecDepth 100000
/-! # List comprehensions -/
namespace Dv
open PySem PySem.Spec PyProof.Rows L2 Evl

def wipeG (Γ : Gm) : List Nat → Gm
  | [] => Γ
  | v :: vs => (wipeG Γ vs).set v .no
theorem SlsAt.put {B : Bs} {w : Wd} {F H : Hp} {Γ : Gm} {σ : L2.St} {i : Nat} {t : Sl} {v : Option V} (h : SlsAt B w F H Γ σ) (hs : SlAt B w F H t v) : SlsAt B w F H (Γ.set i t) (σ.set i v) := fun j u e => by
  rw [List.getElem?_set] at e
  by_cases hij : i = j
  · subst hij
    rw [if_pos rfl] at e
    by_cases hi : i < Γ.length
    · rw [if_pos hi] at e
      cases e
      obtain ⟨x, h1, _⟩ := h i _ (List.getElem?_eq_getElem hi)
      exact ⟨v, by rw [List.getElem?_set_self (List.getElem?_eq_some_iff.mp h1).1], hs⟩
    · rw [if_neg hi] at e; cases e
  · rw [if_neg hij] at e
    obtain ⟨x, h1, h2⟩ := h j u e
    exact ⟨x, by rw [List.getElem?_set_ne hij]; exact h1, h2⟩
theorem SlsAt.wiped {B : Bs} {w : Wd} {F H : Hp} {Γ : Gm} {σ : L2.St} (h : SlsAt B w F H Γ σ) : ∀ vs : List Nat, SlsAt B w F H (wipeG Γ vs) (wipe σ vs)
  | [] => h
  | v :: vs => (SlsAt.wiped h vs).put (t := .no) (v := none) trivial
theorem SlsAt.sets {B : Bs} {w : Wd} {F H : Hp} : ∀ {l : List (Nat × D)} {l' : List (Nat × V)} {Γ : Gm} {σ : L2.St}, SlsAt B w F H Γ σ → Asg B w F l l' → SlsAt B w F H (setGm Γ l) (setSt σ l')
  | _, _, _, _, h, .nil => h
  | _, _, Γ, σ, h, .cons (a := a) (b := b) r t => by
    obtain ⟨i, d⟩ := a
    obtain ⟨j, v⟩ := b
    obtain ⟨e, r⟩ := r
    cases e
    have z := SlsAt.sets (Γ := Γ.set i (.fr d)) (σ := σ.set i (some v)) (h.put ⟨v, rfl, r⟩) t
    exact z
theorem wipe_set {σ : L2.St} {i : Nat} {v : Option V} : ∀ {vs : List Nat}, i ∈ vs → wipe (σ.set i v) vs = wipe σ vs
  | [], h => by cases h
  | u :: vs, h => by
    unfold wipe
    by_cases hu : i ∈ vs
    · rw [wipe_set hu]
    · have e : i = u := by
        rcases List.mem_cons.mp h with e | e
        · exact e
        · exact absurd e hu
      subst e
      have c : ∀ (ws : List Nat), i ∉ ws → wipe (σ.set i v) ws = (wipe σ ws).set i v := fun ws => by
        induction ws with
        | nil => intro _; rfl
        | cons x ws ih =>
          intro hx
          have h1 : i ≠ x := fun z => hx (by rw [z]; exact List.mem_cons_self)
          have h2 : i ∉ ws := fun z => hx (List.mem_cons_of_mem _ z)
          unfold wipe
          rw [ih h2, List.set_comm _ _ h1]
      rw [c vs hu, List.set_set]
theorem wipe_idem {σ : L2.St} : ∀ (vs us : List Nat), (∀ i ∈ us, i ∈ vs) → wipe (wipe σ us) vs = wipe σ vs
  | vs, [], _ => rfl
  | vs, u :: us, h => by
    show wipe ((wipe σ us).set u none) vs = _
    rw [wipe_set (h u List.mem_cons_self)]
    exact wipe_idem vs us fun i hi => h i (List.mem_cons_of_mem _ hi)
theorem wipe_sets {vs : List Nat} : ∀ {l : List (Nat × V)} {σ : L2.St}, (∀ p ∈ l, p.1 ∈ vs) → wipe (setSt σ l) vs = wipe σ vs
  | [], _, _ => rfl
  | (i, v) :: l, σ, h => by
    show wipe (setSt (σ.set i (some v)) l) vs = _
    rw [wipe_sets fun p hp => h p (List.mem_cons_of_mem _ hp), wipe_set (h (i, v) List.mem_cons_self)]
theorem Asg.fst {B : Bs} {w : Wd} {F : Hp} {P : Nat → Prop} : ∀ {l : List (Nat × D)} {l' : List (Nat × V)}, Asg B w F l l' → (∀ p ∈ l, P p.1) → ∀ p ∈ l', P p.1
  | _, _, .nil, _ => fun p hp => by cases hp
  | _, _, .cons (a := a) (b := b) r t, h => fun p hp => by
    rcases List.mem_cons.mp hp with e | e
    · subst e; rw [← r.1]; exact h a List.mem_cons_self
    · exact Asg.fst t (fun q hq => h q (List.mem_cons_of_mem _ hq)) p e

/-- a comprehension's items: what is kept of them, and the state behind -/
def lcL (as : D → Option (List (Nat × D))) (t : Gm → HS → Res) (e : Gm → HS → Res) (vs : List Nat) (Γ : Gm) : List D → HS → Option (List D × HS)
  | [], s => some ([], s)
  | d :: ds, s => match as d with
    | none => none
    | some l => if l.all (fun p => vs.contains p.1) = true then (match t (setGm Γ l) s with
      | .ret (.bl true) s1 => (match e (setGm Γ l) s1 with
        | .ret z s2 => (match lcL as t e vs Γ ds s2 with
          | some (zs, s3) => some (z :: zs, s3)
          | none => none)
        | _ => none)
      | .ret (.bl false) s1 => lcL as t e vs Γ ds s1
      | _ => none) else none
def W0 : WX := fun _ _ _ _ => False
def Res.bindL (r : Res) (k : List D → HS → Res) : Res := match r with
  | .ret (.lst ds) s => k ds s
  | .exc c fs s => .exc c fs s
  | _ => .stuck
def lcK (o : Option (List D × HS)) : Res := match o with
  | some (zs, s) => .ret (.lst zs) s
  | none => .stuck
/-- [e for g in it if t] -/
def XN.lc {B : Bs} (it : XI B) (g : XG B) (t : XT B) (e : XE B) (vs : List Nat) : XN B where
  te := fun Wx => tLc (it.ti Wx) g.tg (t.tt W0) (e.te W0) vs
  ev := fun Γ s => (it.ev Γ s).bindL fun ds s1 => if ds.length ≤ 100000 then lcK (lcL g.as t.ev e.ev vs (wipeG Γ vs) ds s1) else .stuck
  ok := fun {w F H σ Γ s} Wx ex st sl => by
    have h := it.ok Wx ex st sl
    cases hr : it.ev Γ s with
    | stuck => trivial
    | exc c fs s' => rw [hr] at h; exact fun hx Q => h hx _
    | ret d s1 =>
      rw [hr] at h
      cases d with
      | lst ds =>
        show OkP B w F H σ Wx (NewL B w H) _ (if ds.length ≤ 100000 then lcK (lcL g.as t.ev e.ev vs (wipeG Γ vs) ds s1) else .stuck)
        by_cases hl : ds.length ≤ 100000
        · rw [if_pos hl]
          cases hk : lcL g.as t.ev e.ev vs (wipeG Γ vs) ds s1 with
          | none => trivial
          | some zs =>
            obtain ⟨zs, sE⟩ := zs
            intro Q q
            refine h _ fun J F1 H1 a st1 yl Dl hD => ?_
            have hD0 : H Dl = none := a.fresh ex st1 hD
            refine ⟨fun i m H' => ∃ F' s' xs ys rest, Step w F1 H1 F' H' ∧ StAt w s' F' H' ∧ F' Dl = none ∧ H' Dl = some (.lst xs) ∧ Reps B w F' ys xs ∧ ys.length ≤ i ∧ i ≤ ds.length ∧ m = ds.length - i ∧ lcL g.as t.ev e.ev vs (wipeG Γ vs) (ds.drop i) s' = some (rest, sE) ∧ zs = ys ++ rest,
              ⟨ds.length, F1, s1, [], [], zs, Step.newO a.fh hD, st1.newO hD, fresh_back a.fh hD, upd_same, reps_nil.mpr rfl, Nat.le_refl _, Nat.zero_le _, by simp, by rw [List.drop_zero]; exact hk, rfl⟩, ?_⟩
            have step0 : Step w F H F1 H1 := a
            rintro i m H' ⟨F', s', xs, ys, rest, b, st', hF, hH, rp, hyl, hi, rfl, hrest, hz⟩
            have hOff : Off w Dl := Off.fresh st1 hD
            obtain ⟨y1, y2⟩ := yl F' H' b.ff b.fh
            by_cases hlt : i < ds.length
            · rw [drop_at hlt] at hrest
              obtain ⟨go, yi⟩ := y1 i ds[i] (List.getElem?_eq_getElem hlt)
              unfold lcL at hrest
              cases has : g.as ds[i] with
              | none => rw [has] at hrest; cases hrest
              | some l =>
                have hr2 : (if l.all (fun p => vs.contains p.1) = true then (match t.ev (setGm (wipeG Γ vs) l) s' with
                    | .ret (.bl true) s1 => (match e.ev (setGm (wipeG Γ vs) l) s1 with
                      | .ret z s2 => (match lcL g.as t.ev e.ev vs (wipeG Γ vs) (ds.drop (i + 1)) s2 with
                        | some (zs, s3) => some (z :: zs, s3)
                        | none => none)
                      | _ => none)
                    | .ret (.bl false) s1 => lcL g.as t.ev e.ev vs (wipeG Γ vs) (ds.drop (i + 1)) s1
                    | _ => none) else none) = some (rest, sE) := by rw [has] at hrest; exact hrest
                by_cases hvs : l.all (fun p => vs.contains p.1) = true
                · rw [if_pos hvs] at hr2
                  refine .inr ⟨go, fun H2 => ∃ F2 s2 xs ys rest, Step w F1 H1 F2 H2 ∧ StAt w s2 F2 H2 ∧ F2 Dl = none ∧ H2 Dl = some (.lst xs) ∧ Reps B w F2 ys xs ∧ ys.length ≤ i + 1 ∧ lcL g.as t.ev e.ev vs (wipeG Γ vs) (ds.drop (i + 1)) s2 = some (rest, sE) ∧ zs = ys ++ rest,
                    fun H2 ⟨F2, s2, xs, ys, rest, z1, z2, z3, z4, z5, z6, z7, z8⟩ => ⟨ds.length - (i + 1), by omega, F2, s2, xs, ys, rest, z1, z2, z3, z4, z5, z6, hlt, rfl, z7, z8⟩, fun x H2 hx => ?_⟩
                  obtain ⟨F2, c, kp, r2⟩ := yi x H2 hx
                  have st2 := kp _ st'
                  obtain ⟨l', as2, q2⟩ := g.ok has c.fh r2
                  refine q2 (wipe σ vs) _ ⟨?_, ?_⟩
                  · have hm : ∀ p ∈ l', p.1 ∈ vs := Asg.fst (P := fun n => n ∈ vs) as2 fun p hp => by
                      have := (List.all_eq_true.mp hvs) p hp
                      simpa using this
                    rw [wipe_sets hm, wipe_idem vs vs fun _ z => z]
                  · have ff2 : Ex F F2 := (a.ff.trans b.ff).trans c.ff
                    have sl2 : SlsAt B w F2 H2 (setGm (wipeG Γ vs) l) (setSt (wipe σ vs) l') := (((sl.step step0).step b).step c |>.wiped vs).sets as2
                    have hD2 := c.rest Dl _ hH hF hOff
                    have ht := t.ok W0 c.fh st2 sl2
                    cases ho : t.ev (setGm (wipeG Γ vs) l) s' with
                    | stuck => rw [ho] at hr2; cases hr2
                    | exc _ _ _ => rw [ho] at hr2; cases hr2
                    | ret dt s3 =>
                      rw [ho] at hr2 ht
                      cases dt with
                      | bl bt =>
                        refine ht _ fun F3 H3 c3 st3 => ?_
                        have hD3 := c3.rest Dl _ hD2.2 hD2.1 hOff
                        have b3 := (b.trans c).trans c3
                        cases bt with
                        | false =>
                          rw [if_neg Bool.false_ne_true]
                          exact ⟨F3, s3, xs, ys, rest, b3, st3, hD3.1, hD3.2, (rp.mono c.ff).mono c3.ff, Nat.le_succ_of_le hyl, hr2, hz⟩
                        | true =>
                          rw [if_pos rfl]
                          have he := e.ok W0 c3.fh st3 (sl2.step c3)
                          have hr3 : (match e.ev (setGm (wipeG Γ vs) l) s3 with
                              | .ret z s2 => (match lcL g.as t.ev e.ev vs (wipeG Γ vs) (ds.drop (i + 1)) s2 with
                                | some (zs, s3) => some (z :: zs, s3)
                                | none => none)
                              | _ => none) = some (rest, sE) := hr2
                          cases ho2 : e.ev (setGm (wipeG Γ vs) l) s3 with
                          | stuck => rw [ho2] at hr3; cases hr3
                          | exc _ _ _ => rw [ho2] at hr3; cases hr3
                          | ret z s4 =>
                            rw [ho2] at hr3 he
                            have hr4 : (match lcL g.as t.ev e.ev vs (wipeG Γ vs) (ds.drop (i + 1)) s4 with
                                | some (zs, s3) => some (z :: zs, s3)
                                | none => none) = some (rest, sE) := hr3
                            cases hm : lcL g.as t.ev e.ev vs (wipeG Γ vs) (ds.drop (i + 1)) s4 with
                            | none => rw [hm] at hr4; cases hr4
                            | some zr =>
                              obtain ⟨zr, s5⟩ := zr
                              rw [hm] at hr4
                              cases hr4
                              refine he _ fun y F4 H4 c4 st4 r4 => ?_
                              have hD4 := c4.rest Dl _ hD3.2 hD3.1 hOff
                              have b4 := b3.trans c4
                              have rp4 := ((rp.mono c.ff).mono c3.ff).mono c4.ff
                              refine ⟨xs, hD4.2, sz_lt (by rw [rp.length]; omega), F4, s4, xs ++ [y], ys ++ [z], zr, ⟨b4.ff, Ex.mut b4.fh hD4.1, fun aa o h1 h2 h3 => ?_⟩, st4.mut hOff, hD4.1, upd_same, rp4.snoc r4, by simp; omega, hm, by rw [hz, List.append_assoc]; rfl⟩
                              have ad : aa ≠ Dl := ne_of_none h1 hD
                              rw [upd_ne ad]
                              exact b4.rest aa o h1 h2 h3
                      | _ => cases hr2
                · rw [if_neg hvs] at hr2; cases hr2
            · have ei : i = ds.length := by omega
              subst ei
              rw [List.drop_length] at hrest
              have hre : rest = [] ∧ s' = sE := by
                unfold lcL at hrest
                cases hrest
                exact ⟨rfl, rfl⟩
              obtain ⟨rfl, rfl⟩ := hre
              rw [List.append_nil] at hz
              subst hz
              have hS : Step w F H F' H' := step0.trans b
              exact .inl ⟨y2, q (.ref Dl) F' H' hS st' ⟨zs, Dl, xs, rfl, rfl, hD0, hF, hOff, hH, rp⟩⟩
        · rw [if_neg hl]; trivial
      | _ => trivial
end Dv

set_option Elab.async false
set_option linter.all false
set_option maxRecDepth 100000
/-! # Operations by values -/
namespace Dv
open PySem PySem.Spec PyProof.Rows L2 Evl

/-! ### ints -/
def O2.int0 (B : Bs) (f : Int → Int → D) (g : Int → Int → V) (h : ∀ i j w F, Rep B w F (f i j) (g i j)) : O2 B where
  r := rI0 g
  f := fun d e => match d, e with
    | .int i, .int j => some (f i j)
    | _, _ => none
  ok := fun {w F H x y d e} ex r1 r2 => by
    cases d with
    | int i =>
      cases e with
      | int j =>
        cases rep_int.mp r1
        cases rep_int.mp r2
        exact (OkV.pure ex (h i j w F)).imp fun Q q => ⟨i, j, rfl, rfl, q⟩
      | _ => exact fun z hz => nomatch hz
    | _ => exact fun z hz => nomatch hz
def O2.intC (B : Bs) (C : Int → Int → Prop) [∀ i j, Decidable (C i j)] (f : Int → Int → Int) : O2 B where
  r := rI C fun i j => .int (f i j)
  f := fun d e => match d, e with
    | .int i, .int j => if C i j then some (.int (f i j)) else none
    | _, _ => none
  ok := fun {w F H x y d e} ex r1 r2 => by
    cases d with
    | int i =>
      cases e with
      | int j =>
        cases rep_int.mp r1
        cases rep_int.mp r2
        show OkV B w F H _ (if C i j then some (.int (f i j)) else none)
        by_cases hc : C i j
        · rw [if_pos hc]
          exact (OkV.pure ex (rep_int.mpr rfl)).imp fun Q q => ⟨i, j, rfl, rfl, hc, q⟩
        · rw [if_neg hc]; exact fun z hz => nomatch hz
      | _ => exact fun z hz => nomatch hz
    | _ => exact fun z hz => nomatch hz
abbrev o_addI (B : Bs) : O2 B := .int0 B (fun i j => .int (i + j)) (fun i j => .int (i + j)) fun _ _ _ _ => rep_int.mpr rfl
abbrev o_subI (B : Bs) : O2 B := .int0 B (fun i j => .int (i - j)) (fun i j => .int (i - j)) fun _ _ _ _ => rep_int.mpr rfl
abbrev o_ltI (B : Bs) : O2 B := .int0 B (fun i j => .bl (decide (i < j))) (fun i j => .bl (decide (i < j))) fun _ _ _ _ => rep_bl.mpr rfl
abbrev o_leI (B : Bs) : O2 B := .int0 B (fun i j => .bl (decide (i ≤ j))) (fun i j => .bl (decide (i ≤ j))) fun _ _ _ _ => rep_bl.mpr rfl
abbrev o_gtI (B : Bs) : O2 B := .int0 B (fun i j => .bl (decide (j < i))) (fun i j => .bl (decide (j < i))) fun _ _ _ _ => rep_bl.mpr rfl
abbrev o_geI (B : Bs) : O2 B := .int0 B (fun i j => .bl (decide (j ≤ i))) (fun i j => .bl (decide (j ≤ i))) fun _ _ _ _ => rep_bl.mpr rfl
instance (i j : Int) : Decidable (CMul i j) := by unfold CMul; infer_instance
instance (i j : Int) : Decidable (CDiv i j) := by unfold CDiv; infer_instance
abbrev o_mulI (B : Bs) : O2 B := .intC B CMul (· * ·)
abbrev o_modI (B : Bs) : O2 B := .intC B (fun _ j => 0 < j) (· % ·)
abbrev o_divI (B : Bs) : O2 B := .intC B CDiv (· / ·)

/-! ### texts -/
def O2.strs (B : Bs) (C : Str → Str → Prop) [∀ i j, Decidable (C i j)] (f : Str → Str → D) (g : Str → Str → V) (r : R2) (hr : ∀ i j H (Q : VK), C i j → Q (g i j) H → r (.str i) (.str j) H Q) (h : ∀ i j w F, Rep B w F (f i j) (g i j)) : O2 B where
  r := r
  f := fun d e => match d, e with
    | .str i, .str j => if C i j then some (f i j) else none
    | _, _ => none
  ok := fun {w F H x y d e} ex r1 r2 => by
    cases d with
    | str i =>
      cases e with
      | str j =>
        cases rep_str.mp r1
        cases rep_str.mp r2
        show OkV B w F H _ (if C i j then some (f i j) else none)
        by_cases hc : C i j
        · rw [if_pos hc]
          exact (OkV.pure ex (h i j w F)).imp fun Q q => hr i j H Q hc q
        · rw [if_neg hc]; exact fun z hz => nomatch hz
      | _ => exact fun z hz => nomatch hz
    | _ => exact fun z hz => nomatch hz
def o_addS (B : Bs) : O2 B := .strs B (fun i j => i.length + j.length ≤ 100000) (fun i j => .str (i ++ j)) (fun i j => .str (i ++ j)) (fun x y H Q => ∃ i j, x = .str i ∧ y = .str j ∧ i.length + j.length ≤ sizeLine ∧ Q (.str (i ++ j)) H)
  (fun i j H Q hc q => ⟨i, j, rfl, rfl, sz_of hc, q⟩) fun _ _ _ _ => rep_str.mpr rfl
def o_ltS (B : Bs) : O2 B := .strs B (fun _ _ => True) (fun i j => .bl (decide (i.cps.toList < j.cps.toList))) (fun i j => .bl (decide (i.cps.toList < j.cps.toList))) (fun x y H Q => ∃ i j, x = .str i ∧ y = .str j ∧ Q (.bl (decide (i.cps.toList < j.cps.toList))) H)
  (fun i j H Q _ q => ⟨i, j, rfl, rfl, q⟩) fun _ _ _ _ => rep_bl.mpr rfl
def o_leS (B : Bs) : O2 B := .strs B (fun _ _ => True) (fun i j => .bl (!decide (j.cps.toList < i.cps.toList))) (fun i j => .bl (!decide (j.cps.toList < i.cps.toList))) (fun x y H Q => ∃ i j, x = .str i ∧ y = .str j ∧ Q (.bl (!decide (j.cps.toList < i.cps.toList))) H)
  (fun i j H Q _ q => ⟨i, j, rfl, rfl, q⟩) fun _ _ _ _ => rep_bl.mpr rfl

/-! ### lists and tuples put together -/
def o_catL (B : Bs) : O2 B where
  r := rCat
  f := fun d e => match d, e with
    | .lst xs, .lst ys => if xs.length + ys.length ≤ 100000 then some (.lst (xs ++ ys)) else none
    | _, _ => none
  ok := fun {w F H x y d e} ex r1 r2 => by
    cases d with
    | lst xs =>
      cases e with
      | lst ys =>
        obtain ⟨p, vs, rfl, h1, h2⟩ := rep_lst.mp r1
        obtain ⟨q, us, rfl, h3, h4⟩ := rep_lst.mp r2
        show OkV B w F H _ (if xs.length + ys.length ≤ 100000 then some (.lst (xs ++ ys)) else none)
        by_cases hc : xs.length + ys.length ≤ 100000
        · rw [if_pos hc]
          exact (OkV.new (o := .lst (vs ++ us)) ex fun r hr => rep_lst.mpr ⟨r, _, rfl, upd_same, (h2.append h4).mono (Ex.new hr)⟩).imp fun Q q' => ⟨p, q, vs, us, rfl, rfl, ex _ _ h1, ex _ _ h3, sz_of (by rw [h2.length, h4.length]; exact hc), q'⟩
        · rw [if_neg hc]; exact fun z hz => nomatch hz
      | _ => exact fun z hz => nomatch hz
    | _ => exact fun z hz => nomatch hz
def o_catT (B : Bs) : O2 B where
  r := rCatA B.K
  f := fun d e => match d, e with
    | .tup _ xs, .tup _ ys => if xs.length + ys.length ≤ 100000 then some (.tup false (xs ++ ys)) else none
    | _, _ => none
  ok := fun {w F H x y d e} ex r1 r2 => by
    cases d with
    | tup pl xs =>
      cases e with
      | tup pl' ys =>
        obtain ⟨p, vs, rfl, h1, h2⟩ := rep_tupE r1
        obtain ⟨q, us, rfl, h3, h4⟩ := rep_tupE r2
        show OkV B w F H _ (if xs.length + ys.length ≤ 100000 then some (.tup false (xs ++ ys)) else none)
        by_cases hc : xs.length + ys.length ≤ 100000
        · rw [if_pos hc]
          intro z hz Q k
          cases hz
          refine ⟨p, q, vs, us, rfl, rfl, ex_t ex h1, ex_t ex h3, sz_of (by rw [h2.length, h4.length]; exact hc), fun hv => ?_, fun hv hu => ?_, fun hv hu r hr => ?_⟩
          · subst hv
            have e0 : xs = [] := List.eq_nil_of_length_eq_zero (by rw [← h2.length] <;> rfl)
            subst e0
            exact k _ F H (Step.refl ex) (fun _ s => s) (rep_tup.mpr ⟨q, us, rfl, h3, h4⟩)
          · subst hu
            have e0 : ys = [] := List.eq_nil_of_length_eq_zero (by rw [← h4.length] <;> rfl)
            subst e0
            rw [List.append_nil] at k
            exact k _ F H (Step.refl ex) (fun _ s => s) (rep_tup.mpr ⟨p, vs, rfl, h1, h2⟩)
          · exact k _ _ _ (Step.new ex hr) (fun s st => st.new hr) (rep_tup.mpr ⟨r, _, rfl, st_of upd_same, (h2.append h4).mono (Ex.new (fresh_back ex hr))⟩)
        · rw [if_neg hc]; exact fun z hz => nomatch hz
      | _ => exact fun z hz => nomatch hz
    | _ => exact fun z hz => nomatch hz
def o_add (B : Bs) : O2 B := (o_addI B).or ((o_addS B).or ((o_catL B).or (o_catT B)))
def o_lt (B : Bs) : O2 B := (o_ltI B).or (o_ltS B)
def o_le (B : Bs) : O2 B := (o_leI B).or (o_leS B)

/-! ### equality of plain data -/
mutual
def pd : D → Option PyData
  | .non => some .none
  | .bl b => some (.bool b)
  | .int i => some (.int i)
  | .str x => some (.str x)
  | .lst ds => (pds ds).map .list
  | .tup _ ds => (pds ds).map .tuple
  | _ => none
def pds : List D → Option (List PyData)
  | [] => some []
  | d :: ds => match pd d with
    | some x => match pds ds with
      | some xs => some (x :: xs)
      | none => none
    | none => none
end
section
variable {B : Bs} {w : Wd} {F : Hp}
mutual
theorem rep_dp : ∀ {d : D} {v : V} {x : PyData}, pd d = some x → Rep B w F d v → Dp B.K F v x
  | .non, _, _, h, r => by cases h; cases rep_non.mp r; exact .non
  | .bl _, _, _, h, r => by cases h; cases rep_bl.mp r; exact .bl _
  | .int _, _, _, h, r => by cases h; cases rep_int.mp r; exact .int _
  | .str _, _, _, h, r => by cases h; cases rep_str.mp r; exact .str _
  | .lst ds, _, _, h, r => by
    obtain ⟨p, xs, rfl, h1, h2⟩ := rep_lst.mp r
    unfold pd at h
    cases hp : pds ds with
    | none => rw [hp] at h; cases h
    | some ys => rw [hp] at h; cases h; exact .lst (sq_of h1) (reps_dp hp h2)
  | .tup _ ds, _, _, h, r => by
    obtain ⟨p, xs, rfl, h1, h2⟩ := rep_tupE r
    unfold pd at h
    cases hp : pds ds with
    | none => rw [hp] at h; cases h
    | some ys => rw [hp] at h; cases h; exact .tup h1 (reps_dp hp h2)
  | .dic _, _, _, h, _ => by cases h
  | .ins _ _, _, _, h, _ => by cases h
  | .hnd, _, _, h, _ => by cases h
  | .rol _, _, _, h, _ => by cases h
theorem reps_dp : ∀ {ds : List D} {vs : List V} {xs : List PyData}, pds ds = some xs → Reps B w F ds vs → DpAll B.K F vs xs
  | [], _, _, h, r => by cases h; rw [reps_nil.mp r]; exact .nil
  | d :: ds, _, _, h, r => by
    obtain ⟨v, vs, rfl, h1, h2⟩ := reps_cons.mp r
    unfold pds at h
    cases hd : pd d with
    | none => rw [hd] at h; cases h
    | some x =>
      rw [hd] at h
      cases hs : pds ds with
      | none => rw [hs] at h; cases h
      | some ys =>
        rw [hs] at h
        cases h
        exact .cons (rep_dp hd h1) (reps_dp hs h2)
end
end
mutual
theorem dp_ex {K : PySem.W.Frag} {F H : Hp} (e : Ex F H) : ∀ {x : PyData} {v : V}, Dp K F v x → Dp K H v x
  | .none, _, h => by cases h; exact .non
  | .bool _, _, h => by cases h; exact .bl _
  | .int _, _, h => by cases h; exact .int _
  | .str _, _, h => by cases h; exact .str _
  | .list _, _, h => by cases h with | lst a b => exact .lst (ex_l e a) (dps_ex e b)
  | .tuple _, _, h => by cases h with | tup a b => exact .tup (ex_t e a) (dps_ex e b)
  | .dict _, _, h => by cases h
theorem dps_ex {K : PySem.W.Frag} {F H : Hp} (e : Ex F H) : ∀ {xs : List PyData} {vs : List V}, DpAll K F vs xs → DpAll K H vs xs
  | [], _, h => by cases h; exact .nil
  | _ :: _, _, h => by cases h with | cons a b => exact .cons (dp_ex e a) (dps_ex e b)
end
def eqF (neg : Bool) (d e : D) : Option D := match pd d, pd e with
  | some x, some y => if SeqAt.shaped x = true ∧ SeqAt.shaped y = true then some (.bl (if neg then !PyData.eqv x y else PyData.eqv x y)) else none
  | _, _ => none
def o_eqD (B : Bs) : O2 B where
  r := rEqD B.K
  f := eqF false
  ok := fun {w F H x y d e} ex r1 r2 => by
    unfold eqF
    cases h1 : pd d with
    | none => exact fun z hz => nomatch hz
    | some a =>
      cases h2 : pd e with
      | none => exact fun z hz => nomatch hz
      | some b =>
        show OkV B w F H _ (if SeqAt.shaped a = true ∧ SeqAt.shaped b = true then some (.bl (PyData.eqv a b)) else none)
        by_cases hc : SeqAt.shaped a = true ∧ SeqAt.shaped b = true
        · rw [if_pos hc]
          exact (OkV.pure ex (rep_bl.mpr rfl)).imp fun Q q => ⟨a, b, dp_ex ex (rep_dp h1 r1), dp_ex ex (rep_dp h2 r2), hc.1, hc.2, q⟩
        · rw [if_neg hc]; exact fun z hz => nomatch hz
def o_neD (B : Bs) : O2 B where
  r := rNeD B.K
  f := eqF true
  ok := fun {w F H x y d e} ex r1 r2 => by
    unfold eqF
    cases h1 : pd d with
    | none => exact fun z hz => nomatch hz
    | some a =>
      cases h2 : pd e with
      | none => exact fun z hz => nomatch hz
      | some b =>
        show OkV B w F H _ (if SeqAt.shaped a = true ∧ SeqAt.shaped b = true then some (.bl (!PyData.eqv a b)) else none)
        by_cases hc : SeqAt.shaped a = true ∧ SeqAt.shaped b = true
        · rw [if_pos hc]
          exact (OkV.pure ex (rep_bl.mpr rfl)).imp fun Q q => ⟨a, b, dp_ex ex (rep_dp h1 r1), dp_ex ex (rep_dp h2 r2), hc.1, hc.2, q⟩
        · rw [if_neg hc]; exact fun z hz => nomatch hz

/-! ### in a list, a tuple of flat things -/
def fl : D → Option V
  | .non => some .non
  | .bl b => some (.bl b)
  | .int i => some (.int i)
  | .str x => some (.str x)
  | _ => none
def fls : List D → Option (List V)
  | [] => some []
  | d :: ds => match fl d with
    | some v => match fls ds with
      | some vs => some (v :: vs)
      | none => none
    | none => none
theorem fl_rep {B : Bs} {w : Wd} {F : Hp} : ∀ {d : D} {v u : V}, fl d = some v → Rep B w F d u → u = v ∧ flatV v = true
  | .non, _, _, h, r => by cases h; exact ⟨rep_non.mp r, rfl⟩
  | .bl _, _, _, h, r => by cases h; exact ⟨rep_bl.mp r, rfl⟩
  | .int _, _, _, h, r => by cases h; exact ⟨rep_int.mp r, rfl⟩
  | .str _, _, _, h, r => by cases h; exact ⟨rep_str.mp r, rfl⟩
theorem fls_rep {B : Bs} {w : Wd} {F : Hp} : ∀ {ds : List D} {vs us : List V}, fls ds = some vs → Reps B w F ds us → us = vs ∧ vs.all flatV = true
  | [], _, _, h, r => by cases h; exact ⟨reps_nil.mp r, rfl⟩
  | d :: ds, _, _, h, r => by
    obtain ⟨v, vs, rfl, h1, h2⟩ := reps_cons.mp r
    unfold fls at h
    cases hd : fl d with
    | none => rw [hd] at h; cases h
    | some x =>
      rw [hd] at h
      cases hs : fls ds with
      | none => rw [hs] at h; cases h
      | some ys =>
        rw [hs] at h
        cases h
        obtain ⟨e1, f1⟩ := fl_rep hd h1
        obtain ⟨e2, f2⟩ := fls_rep hs h2
        subst e1 e2
        exact ⟨rfl, by rw [List.all_cons, f1, f2] <;> rfl⟩
def sqOf : D → Option (List D)
  | .lst ds => some ds
  | .tup _ ds => some ds
  | _ => none
def inF (neg : Bool) (d e : D) : Option D := match fl d with
  | some v => match sqOf e with
    | some ds => match fls ds with
      | some vs => some (.bl (if neg then !inV v vs else inV v vs))
      | none => none
    | none => none
  | none => none
theorem sq_rep {B : Bs} {w : Wd} {F H : Hp} (ex : Ex F H) : ∀ {e : D} {ds : List D} {v : V}, sqOf e = some ds → Rep B w F e v → ∃ p us, v = .ref p ∧ (SqL B.K H p us ∨ SqT B.K H p us) ∧ Reps B w F ds us
  | .lst ds, _, _, h, r => by
    cases h
    obtain ⟨p, us, e, h3, h4⟩ := rep_lst.mp r
    exact ⟨p, us, e, .inl (sq_of (ex _ _ h3)), h4⟩
  | .tup _ ds, _, _, h, r => by
    cases h
    obtain ⟨p, us, e, h3, h4⟩ := rep_tupE r
    exact ⟨p, us, e, .inr (ex_t ex h3), h4⟩
def o_in (B : Bs) (neg : Bool) : O2 B where
  r := rIn B.K neg
  f := inF neg
  ok := fun {w F H x y d e} ex r1 r2 => by
    unfold inF
    cases h1 : fl d with
    | none => exact fun z hz => nomatch hz
    | some v =>
      obtain ⟨e1, f1⟩ := fl_rep h1 r1
      subst e1
      cases h2 : sqOf e with
      | none => exact fun z hz => nomatch hz
      | some ds =>
        obtain ⟨p, us, rfl, h3, h4⟩ := sq_rep ex h2 r2
        cases h5 : fls ds with
        | none =>
          intro z hz
          simp only [h5] at hz
          cases hz
        | some vs =>
          obtain ⟨e2, f2⟩ := fls_rep h5 h4
          subst e2
          intro z hz
          simp only [h5] at hz
          exact (OkV.pure ex (rep_bl.mpr rfl)).imp (fun Q q => ⟨p, us, rfl, h3, f1, f2, q⟩) z hz

/-! ### len, list, tuple, all, any, sum -/
def OC.one {B : Bs} (f : D → Option D) (r : List V → Hp → VK → Prop) (h : ∀ {w : Wd} {F H : Hp} {v : V} {d : D}, Ex F H → Rep B w F d v → OkV B w F H (r [v] H) (f d)) : OC B where
  r := r
  f := fun ds => match ds with
    | [d] => f d
    | _ => none
  ok := fun {w F H xs ds} ex rs => by
    match ds, rs with
    | [], _ => exact fun z hz => nomatch hz
    | [d], rs =>
      obtain ⟨v, vs, rfl, h1, h2⟩ := reps_cons.mp rs
      rw [reps_nil.mp h2]
      exact h ex h1
    | _ :: _ :: _, _ => exact fun z hz => nomatch hz
def lenF : D → Option D
  | .lst ds => some (.int ds.length)
  | .rol ds => some (.int ds.length)
  | .tup _ ds => some (.int ds.length)
  | .str x => if x.length ≤ 100000 then some (.int x.length) else none
  | _ => none
def o_len (B : Bs) : OC B := .one lenF (fun xs H Q => ∃ x n, xs = [x] ∧ LenV B.K x H n ∧ Q (.int n) H) fun {w F H v d} ex r => by
  cases d with
  | lst ds =>
    obtain ⟨p, us, rfl, h3, h4⟩ := rep_lst.mp r
    rw [show lenF (.lst ds) = some (.int (us.length : Nat)) from by rw [h4.length] <;> rfl]
    exact (OkV.pure ex (rep_int.mpr rfl)).imp fun Q q => ⟨_, _, rfl, .inl ⟨us, sq_of (ex _ _ h3), rfl⟩, q⟩
  | rol ds =>
    obtain ⟨p, rfl, h3⟩ := rep_rol.mp r
    refine (OkV.pure ex (rep_int.mpr rfl)).imp fun Q q => ⟨_, _, rfl, .inl ⟨_, ex_l ex h3, rfl⟩, ?_⟩
    rw [List.length_map]
    exact q
  | tup pl ds =>
    obtain ⟨p, us, rfl, h3, h4⟩ := rep_tupE r
    rw [show lenF (.tup pl ds) = some (.int (us.length : Nat)) from by rw [h4.length] <;> rfl]
    exact (OkV.pure ex (rep_int.mpr rfl)).imp fun Q q => ⟨_, _, rfl, .inr ⟨us, ex_t ex h3, rfl⟩, q⟩
  | str x =>
    cases rep_str.mp r
    show OkV B w F H _ (if x.length ≤ 100000 then some (.int x.length) else none)
    by_cases hc : x.length ≤ 100000
    · rw [if_pos hc]
      exact (OkV.pure ex (rep_int.mpr rfl)).imp fun Q q => ⟨_, _, rfl, ⟨sz_of hc, rfl⟩, q⟩
    · rw [if_neg hc]; exact fun z hz => nomatch hz
  | _ => exact fun z hz => nomatch hz
/-- tuple(x): what is laid is plain -/
def tupF : D → Option D
  | .lst ds => some (.tup true ds)
  | .tup pl ds => some (.tup pl ds)
  | _ => none
def rTupP (K : PySem.W.Frag) : List V → Hp → VK → Prop := fun xs H Q => ∃ p ys, xs = [.ref p] ∧ ((SqL K H p ys ∧ ∀ (l : Addr) (ob : Obj), H l = none → ob.dict = none → Q (.ref l) (upd H l (.frz ob (.tup ys)))) ∨ (SqT K H p ys ∧ Q (.ref p) H))
theorem OkV.newP {B : Bs} {w : Wd} {F H : Hp} {ds : List D} {us : List V} (e : Ex F H) (r : Reps B w F ds us) : OkV B w F H (fun Q => ∀ (p : Addr) (ob : Obj), H p = none → ob.dict = none → Q (.ref p) (upd H p (.frz ob (.tup us)))) (some (.tup true ds)) := fun z h Q q p ob hp hd => by
  cases h
  exact q (.ref p) _ _ (Step.new e hp) (fun s st => st.new hp) (rep_tupN upd_same hd (r.mono (Ex.new (fresh_back e hp))))
def o_tup (B : Bs) : OC B := .one tupF (rTupP B.K) fun {w F H v d} ex r => by
  cases d with
  | lst ds =>
    obtain ⟨p, us, rfl, h3, h4⟩ := rep_lst.mp r
    exact (OkV.newP ex h4).imp fun Q q => ⟨p, us, rfl, .inl ⟨sq_of (ex _ _ h3), q⟩⟩
  | tup pl ds =>
    obtain ⟨p, us, rfl, h3, h4⟩ := rep_tupE r
    exact (OkV.pure ex r).imp fun Q q => ⟨p, us, rfl, .inr ⟨ex_t ex h3, q⟩⟩
  | _ => exact fun z hz => nomatch hz
theorem call_tupP {X : Cx} : CallR X (.type "tuple") (rTupP X.K) := by
  intro pins s σ H xs us Q I r h
  obtain ⟨p, ys, rfl, h⟩ := h
  obtain ⟨u, rfl, rx⟩ := vals1 r
  cases rx
  rcases h with ⟨hq, q⟩ | ⟨hq, q⟩
  · obtain ⟨its, rv, pl, hz⟩ := I.list hq
    have hl := rv.length
    refine call_tuple_list pl.isList (fun hn kp => ?_) (by simp only [List.size_toArray] <;> omega)
    have I1 : Inv X pins σ H { s with heap := hn } := I.kept (t' := s.toks) kp
    have I2 : Inv X pins σ (upd H hn.objs.size (.frz { cls := .type "tuple", data := .seq its.toArray } (.tup ys))) { s with heap := hn.push { cls := .type "tuple", data := .seq its.toArray } } :=
      I1.laid (t' := s.toks) (fun b o e => Heap.get?_push_of_some _ e) (Nat.le_refl _) ⟨Heap.get?_push_size _ rfl, hz, its, rv, IsTup.new _ _⟩
    exact ⟨.ref hn.objs.size, _, I2, rfl, q _ _ (I1.hok.fresh (Nat.le_refl _)) rfl⟩
  · obtain ⟨its, rv, pl, hz⟩ := I.tuple hq
    exact call_tuple_same pl ⟨.ref p, H, I, rfl, q⟩
def blsOf : List D → Option (List Bool)
  | [] => some []
  | .bl b :: ds => (blsOf ds).map (b :: ·)
  | _ :: _ => none
def intsOf : List D → Option (List Int)
  | [] => some []
  | .int b :: ds => (intsOf ds).map (b :: ·)
  | _ :: _ => none
def strsOf : List D → Option (List Str)
  | [] => some []
  | .str b :: ds => (strsOf ds).map (b :: ·)
  | _ :: _ => none
theorem bls_rep {B : Bs} {w : Wd} {F : Hp} : ∀ {ds : List D} {bs : List Bool} {us : List V}, blsOf ds = some bs → Reps B w F ds us → us = bs.map V.bl
  | [], _, _, h, r => by cases h; exact reps_nil.mp r
  | .bl b :: ds, bs, _, h, r => by
    obtain ⟨v, vs, rfl, h1, h2⟩ := reps_cons.mp r
    unfold blsOf at h
    cases hs : blsOf ds with
    | none => rw [hs] at h; cases h
    | some cs => rw [hs] at h; cases h; rw [rep_bl.mp h1, bls_rep hs h2] <;> rfl
theorem ints_rep {B : Bs} {w : Wd} {F : Hp} : ∀ {ds : List D} {bs : List Int} {us : List V}, intsOf ds = some bs → Reps B w F ds us → us = bs.map V.int
  | [], _, _, h, r => by cases h; exact reps_nil.mp r
  | .int b :: ds, bs, _, h, r => by
    obtain ⟨v, vs, rfl, h1, h2⟩ := reps_cons.mp r
    unfold intsOf at h
    cases hs : intsOf ds with
    | none => rw [hs] at h; cases h
    | some cs => rw [hs] at h; cases h; rw [rep_int.mp h1, ints_rep hs h2] <;> rfl
theorem strs_rep {B : Bs} {w : Wd} {F : Hp} : ∀ {ds : List D} {bs : List Str} {us : List V}, strsOf ds = some bs → Reps B w F ds us → us = bs.map V.str
  | [], _, _, h, r => by cases h; exact reps_nil.mp r
  | .str b :: ds, bs, _, h, r => by
    obtain ⟨v, vs, rfl, h1, h2⟩ := reps_cons.mp r
    unfold strsOf at h
    cases hs : strsOf ds with
    | none => rw [hs] at h; cases h
    | some cs => rw [hs] at h; cases h; rw [rep_str.mp h1, strs_rep hs h2] <;> rfl
def onL (g : List D → Option D) : D → Option D
  | .lst ds => g ds
  | _ => none
def o_all (B : Bs) : OC B := .one (onL fun ds => (blsOf ds).map fun bs => .bl (bs.all id)) (rAll B.K) fun {w F H v d} ex r => by
  cases d with
  | lst ds =>
    obtain ⟨p, us, rfl, h3, h4⟩ := rep_lst.mp r
    show OkV B w F H _ ((blsOf ds).map fun bs => .bl (bs.all id))
    cases hb : blsOf ds with
    | none => exact fun z hz => nomatch hz
    | some bs =>
      have e := bls_rep hb h4
      subst e
      exact (OkV.pure ex (rep_bl.mpr rfl)).imp fun Q q => ⟨p, bs, rfl, sq_of (ex _ _ h3), q⟩
  | _ => exact fun z hz => nomatch hz
def o_any (B : Bs) : OC B := .one (onL fun ds => (blsOf ds).map fun bs => .bl (bs.any id)) (rAny B.K) fun {w F H v d} ex r => by
  cases d with
  | lst ds =>
    obtain ⟨p, us, rfl, h3, h4⟩ := rep_lst.mp r
    show OkV B w F H _ ((blsOf ds).map fun bs => .bl (bs.any id))
    cases hb : blsOf ds with
    | none => exact fun z hz => nomatch hz
    | some bs =>
      have e := bls_rep hb h4
      subst e
      exact (OkV.pure ex (rep_bl.mpr rfl)).imp fun Q q => ⟨p, bs, rfl, sq_of (ex _ _ h3), q⟩
  | _ => exact fun z hz => nomatch hz
/-- int(x) -/
def o_int (B : Bs) : OC B := .one (fun d => match d with
    | .int i => some (.int i)
    | _ => none) (fun xs H Q => (∃ i, xs = [.int i] ∧ Q (.int i) H) ∨ ∃ k, xs = [.bl k] ∧ Q (.int (if k then 1 else 0)) H) fun {w F H v d} ex r => by
  cases d with
  | int i =>
    cases rep_int.mp r
    exact (OkV.pure ex (rep_int.mpr rfl)).imp fun Q q => .inl ⟨i, rfl, q⟩
  | _ => exact fun z hz => nomatch hz
/-- a call of a built-in -/
def XE.blt {B : Bs} (o : OC B) (ps : List (XE B)) : XE B where
  te := fun Wx => tCB o.r (tas Wx ps)
  ev := fun Γ s => evs Γ ps s fun ds s1 => Res.opt (o.f ds) s1
  ok := fun {w F H σ Γ s} Wx e st sl => evs_ok Wx ps (u := fun vs H1 Q => o.r vs H1 Q) e st sl fun ds s1 vs F1 H1 a st1 r _ => (o.ok a.fh r).toE st1
/-- x[i] of lists, tuples, dicts -/
def lookK (kvs : List (Key × D)) (k : Key) : Option D := (kvs.find? fun kv => decide (kv.1 = k)).map (·.2)
def ixF (d e : D) : Option D := match e with
  | .int i => match d with
    | .lst ds => atI ds i
    | .tup _ ds => atI ds i
    | .dic kvs => lookK kvs (.inl i)
    | _ => none
  | .str x => match d with
    | .dic kvs => lookK kvs (.inr x)
    | _ => none
  | _ => none
def rIxDc : R2 := fun x y H Q => ∃ p v, x = .ref p ∧ DGet H p y (some v) ∧ Q v H
theorem repK_look {B : Bs} {w : Wd} {F : Hp} {k : Key} {d : D} : ∀ {kvs : List (Key × D)} {xs : List (Key × V)}, RepK B w F kvs xs → lookK kvs k = some d → ∃ v, valV xs k = some v ∧ Rep B w F d v
  | [], _, _, h => by cases h
  | (k1, d1) :: kvs, _, r, h => by
    obtain ⟨v, xs, rfl, h1, h2⟩ := repK_cons.mp r
    unfold lookK at h
    unfold valV
    rw [List.find?_cons] at h ⊢
    by_cases hk : k1 = k
    · rw [decide_eq_true hk] at h ⊢
      cases h
      exact ⟨v, rfl, h1⟩
    · rw [decide_eq_false hk] at h ⊢
      exact repK_look h2 h
theorem ixN_lt {n : Nat} {i : Int} {j : Nat} (h : ixN n i = some j) : j < n := by
  unfold ixN at h
  split at h
  · split at h
    · cases h; omega
    · cases h
  · split at h
    · cases h; omega
    · cases h
theorem reps_at {B : Bs} {w : Wd} {F : Hp} {ds : List D} {us : List V} {i : Int} {d : D} (h : atI ds i = some d) (r : Reps B w F ds us) : ∃ v, atI us i = some v ∧ Rep B w F d v := by
  unfold atI at h ⊢
  rw [r.length]
  cases hj : ixN ds.length i with
  | none => rw [hj] at h; cases h
  | some j =>
    rw [hj] at h
    exact r.get (i := j) h
theorem dic_ix {B : Bs} {w : Wd} {F H : Hp} {x : V} {kvs : List (Key × D)} {k : Key} (ex : Ex F H) (r1 : Rep B w F (.dic kvs) x) : OkV B w F H (rIxDc x (kV k) H) (lookK kvs k) := by
  obtain ⟨p, us, rfl, h3, h4⟩ := rep_dic.mp r1
  cases hl : lookK kvs k with
  | none => exact fun z hz => nomatch hz
  | some d =>
    obtain ⟨v, e1, r⟩ := repK_look h4 hl
    exact (OkV.pure ex r).imp fun Q q => ⟨p, v, rfl, by rw [← e1]; exact DGet.k (ex _ _ h3), q⟩
def o_ix (B : Bs) : O2 B where
  r := fun x y H Q => rIxL B.K x y H Q ∨ rIxT B.K x y H Q ∨ rIxDc x y H Q
  f := ixF
  ok := fun {w F H x y d e} ex r1 r2 => by
    cases e with
    | int i =>
      cases rep_int.mp r2
      cases d with
      | lst ds =>
        obtain ⟨p, us, rfl, h3, h4⟩ := rep_lst.mp r1
        show OkV B w F H _ (atI ds i)
        cases ha : atI ds i with
        | none => exact fun z hz => nomatch hz
        | some z =>
          obtain ⟨v, e1, r⟩ := reps_at ha h4
          exact (OkV.pure ex r).imp fun Q q => .inl ⟨p, us, i, v, rfl, rfl, sq_of (ex _ _ h3), e1, q⟩
      | tup pl ds =>
        obtain ⟨p, us, rfl, h3, h4⟩ := rep_tupE r1
        show OkV B w F H _ (atI ds i)
        cases ha : atI ds i with
        | none => exact fun z hz => nomatch hz
        | some z =>
          obtain ⟨v, e1, r⟩ := reps_at ha h4
          exact (OkV.pure ex r).imp fun Q q => .inr (.inl ⟨p, us, i, v, rfl, rfl, ex_t ex h3, e1, q⟩)
      | dic kvs => exact (dic_ix (k := .inl i) ex r1).imp fun Q q => .inr (.inr q)
      | _ => exact fun z hz => nomatch hz
    | str z =>
      cases rep_str.mp r2
      cases d with
      | dic kvs => exact (dic_ix (k := .inr z) ex r1).imp fun Q q => .inr (.inr q)
      | _ => exact fun z hz => nomatch hz
    | _ => exact fun z hz => nomatch hz
/-- (a, b, ..): plain -/
def tTupP (t : TA) : TE := fun σ H Q => t σ H fun xs H1 => xs.length ≤ sizeLine ∧ ∀ (p : Addr) (ob : Obj), H1 p = none → ob.dict = none → Q (.ref p) (upd H1 p (.frz ob (.tup xs)))
theorem pe_tupP {X : Cx} {es : List Expr} {t : TA} {pos : Pos} {x1} (h : PA X es t) : PE X (.Tuple es x1 pos) (tTupP t) := by
  refine ⟨fun pins s σ H Q I hq => ?_⟩
  refine wpAny_Tuple_spliced (thn (h.run pos pins s σ H _ I hq) fun us sn ⟨xs, H1, I1, r, z, q⟩ => ⟨by rw [← r.length]; exact z, ?_⟩)
  have hf : H1 sn.heap.objs.size = none := I1.hok.fresh (Nat.le_refl _)
  refine ⟨.ref sn.heap.objs.size, _, I1.laid (t' := sn.toks) (o := .frz { cls := .type "tuple", data := .seq us.toArray } (.tup xs)) (fun b u e => Heap.get?_push_of_some _ e) (Nat.le_refl _) ?_, rfl, q _ _ hf rfl⟩
  exact ⟨Heap.get?_push_size _ rfl, z, us, r, ⟨_, Heap.get?_push_size _ rfl, rfl, _, rfl⟩⟩
def XE.tup {B : Bs} (ps : List (XE B)) (hl : ps.length ≤ 100000 := by exact Nat.le_of_ble_eq_true rfl) : XE B where
  te := fun Wx => tTupP (tas Wx ps)
  ev := fun Γ s => evs Γ ps s fun ds s1 => .ret (.tup true ds) s1
  ok := fun {w F H σ Γ s} Wx e st sl => evs_ok Wx ps (u := fun xs H1 Q => xs.length ≤ sizeLine ∧ ∀ (p : Addr) (ob : Obj), H1 p = none → ob.dict = none → Q (.ref p) (upd H1 p (.frz ob (.tup xs)))) e st sl fun ds s1 vs F1 H1 a st1 r hn =>
    OkP.imp ((OkV.newP a.fh r).toE st1) fun Q q => ⟨sz_of (by rw [r.length, hn]; exact hl), q⟩
end Dv

set_option Elab.async false
set_option linter.all false
set_option maxRecDepth 100000
/-! # Own classes -/
namespace Dv
open PySem PySem.Spec PyProof.Rows L2 Evl

section
variable {X : Cx} {CX : CXT} {k : Nat} {f : Addr} {fd : FuncData} {ps : List Str} {sp : Sp} {E : XK} {A : Around} {pins : List (Addr × Obj)} {σ : L2.St} {H : Hp} {s : Shared} {Q : VK} {us : List Value} {vs : List V}
/-- a def of the text runs below the running body, at the slots as they stand -/
theorem run_any (Fn : FnOk X.prog X.w X.K X.mg X.base CX k f fd ps sp) (room : Room k A) (e0 : Env0 X.prog X.w X.K X.mg X.base A X.stack s H) (bd : Binds X.K fd ps []) (px : PassesAt CX X σ E)
    (I : Inv X pins σ H s) (rv : Vals vs us) (hsp : sp vs H Q E) : wpAny (model X.prog X.w) A (call (.ref f) us) (EP X pins σ Q) X.xe s := by
  have len : us.length = ps.length := by
    rw [← rv.length]
    exact Fn.len _ _ _ _ hsp
  have bt := bd s us I.kIn (by rw [List.append_nil]; exact len)
  rw [List.append_nil] at bt
  refine wpAny_call (codeAny_mono (Fn.run A X.stack s H ⟨us, []⟩ us vs Q E room e0 bt rv hsp) fun r s' hr => ?_)
  cases r with
  | error x => exact px pins H s x s' I hr
  | ok fl =>
    cases fl with
    | ret u => exact I.after hr
    | _ => exact hr.elim
/-- an instance that is tracked, as the library sees it -/
theorem inst_of {a C dx : Addr} {fs : List (Str × V)} (I : Inv X pins σ H s) (ea : H a = some (.ins C dx fs)) : ∃ (ox : Obj) (od : Option Obj), PySem.W.InstAt s.heap a ox C od := by
  obtain ⟨mA, O, _⟩ := ins_get I.hok ea
  obtain ⟨od, J, _⟩ := O.look
  exact ⟨_, _, J⟩
end

/-! ### own operators: the class's name, the method's function -/
abbrev Hd := List (Str × Gf)
def Hd.at (hs : Hd) (c : Str) : Option Gf := (hs.find? fun h => decide (h.1 = c)).map (·.2)
def clsOf : D → Option Str
  | .ins c _ => some c
  | _ => none
/-- the own method of x is called -/
def ownR (B : Bs) (hs : Hd) (n : Nat) (x : V) (xs : List V) (H : Hp) (Q : VK) (E : XK) : Prop := ∃ c g p dx fs, hs.at c = some g ∧ x = .ref p ∧ H p = some (.ins (B.ca c) dx fs) ∧ spD B n g (x :: xs) H Q E
theorem ownR_ok {B : Bs} {hs : Hd} {n : Nat} {w : Wd} {F H : Hp} {σ : L2.St} {Wx : WX} {c : Str} {fs : List (Str × D)} {x : V} {ds : List D} {xs : List V} {s : HS} (g : Gf) (hg : hs.at c = some g) (hn : ds.length + 1 = n) (e : Ex F H) (st : StAt w s F H) (r : Rep B w F (.ins c fs) x) (rs : Reps B w F ds xs) :
    OkE B w F H σ Wx (fun Q => ownR B hs n x xs H Q (WE Wx σ)) (g (.ins c fs :: ds) s) := by
  obtain ⟨p, dx, ys, rfl, h1, h2⟩ := rep_ins.mp r
  exact OkP.imp (spD_use (g := g) (ds := .ins c fs :: ds) (vs := .ref p :: xs) (by simpa using hn) e st (reps_cons.mpr ⟨_, _, rfl, r, rs⟩)) fun Q q => ⟨c, g, p, dx, ys, hg, rfl, e _ _ h1, q⟩
/-- what the top has made of an own method: where it stands, that it keeps its promise -/
structure OwnM (B : Bs) (X : Cx) (k : Nat) (m : Str) (n : Nat) (c : Str) (g : Gf) : Prop where
  ex : ∃ f fd ps, PySem.W.findIn X.K (.ref (B.ca c)) m = some (some (.ref f)) ∧ PySem.W.isFn X.K (.ref f) = true ∧ PySem.W.fnIn X.K f = true ∧ PySem.W.keepIn X.K (.ref f) = true ∧ Cls X.K (B.ca c) ∧ Binds X.K fd ps [] ∧ ps.length = n ∧ FnOk X.prog X.w X.K X.mg X.base (L2.CX X.prog X.w) k f fd ps (spD B n g)

/-! ### x[i] -/
def XE.ix {B : Bs} (hs : Hd) (a b : XE B) : XE B where
  te := fun Wx σ H Q => a.te Wx σ H fun x H1 => b.te Wx σ H1 fun y H2 => (o_ix B).r x y H2 Q ∨ ownR B hs 2 x [y] H2 Q (WE Wx σ)
  ev := fun Γ s => (a.ev Γ s).bind fun d s1 => (b.ev Γ s1).bind fun e s2 => match d with
    | .ins c fs => match hs.at c with
      | some g => g [.ins c fs, e] s2
      | none => .stuck
    | d => Res.opt (ixF d e) s2
  ok := fun {w F H σ Γ s} Wx e st sl => by
    refine (a.ok Wx e st sl).seq (u := fun x H1 Q => b.te Wx σ H1 fun y H2 => (o_ix B).r x y H2 Q ∨ ownR B hs 2 x [y] H2 Q (WE Wx σ)) fun d s1 v F1 H1 _ a1 st1 r1 => ?_
    refine (b.ok Wx a1.fh st1 (sl.step a1)).seq (u := fun y H2 Q => (o_ix B).r v y H2 Q ∨ ownR B hs 2 v [y] H2 Q (WE Wx σ)) fun d2 s2 v2 F2 H2 _ a2 st2 r2 => ?_
    cases d with
    | ins c fs =>
      show OkE B w F2 H2 σ Wx _ (match hs.at c with
        | some g => g [.ins c fs, d2] s2
        | none => .stuck)
      cases hg : hs.at c with
      | none => trivial
      | some g => exact OkP.imp (ownR_ok g hg rfl a2.fh st2 (r1.mono a2.ff) (reps_cons.mpr ⟨v2, [], rfl, r2, reps_nil.mpr rfl⟩)) fun Q q => .inr q
    | _ => exact OkP.imp (((o_ix B).ok a2.fh (r1.mono a2.ff) r2).toE st2) fun Q q => .inl q
theorem ix_dic {X : Cx} (hu : X.A.units + 1 < cLine) : IxR X rIxDc := by
  intro value slice pins s σ H x y v u Q I rx ry h hs
  obtain ⟨p, z, rfl, g, q⟩ := h
  obtain rfl : v = Value.ref p := rx
  exact tail_any (dict_typeIs I g) PySem.F.slot_dict_getitem.lookup (d_getItem hu I g ry fun w' s3 I3 rw' => ⟨z, H, I3, rw', q⟩) hs
theorem pe_ixU {B : Bs} {X : Cx} {hs : Hd} {k : Nat} {a b : Expr} {ta tb : TE} {pos : Pos} {Wx : WX} (hK : B.K = X.K) (tk : Takes X Wx) (hr : Room (k + 1) X.A) (hM : ∀ c g, hs.at c = some g → OwnM B X k "__getitem__" 2 c g) (ha : PE X a ta) (hb : PE X b tb) (hp : PlainIx b)
    (hsl : ∀ x i, subscripted b true x i = runValue (.builtin "lifetime.subscript" ⟨[x, i], []⟩) := by intro _ _; with_unfolding_all rfl) :
    PE X (.Subscript a b pos) (fun σ H Q => ta σ H fun x H1 => tb σ H1 fun y H2 => (o_ix B).r x y H2 Q ∨ ownR B hs 2 x [y] H2 Q (WE Wx σ)) := by
  refine ⟨fun pins s σ H Q I h => ?_⟩
  refine Subscript_ (binT ha hb I h fun v u s2 x y H2 I2 rx ry q => ?_)
  rcases q with q | ⟨c, g, p, dx, fs, hg, rfl, hp2, q⟩
  · have q' : rIxL X.K x y H2 Q ∨ rIxT X.K x y H2 Q ∨ rIxDc x y H2 Q := by rw [← hK]; exact q
    exact IxR.or ix_list (IxR.or ix_tup (ix_dic (by have := hr.units; omega))) a b pins s2 σ H2 x y v u Q I2 rx ry q' (hp _ _)
  · obtain ⟨f, fd, ps, h1, h2, h3, _, _, h4, _, h5⟩ := (hM c g hg).ex
    cases (show v = Value.ref p from rx)
    obtain ⟨ox, od, J⟩ := inst_of I2 hp2
    obtain ⟨m, fr⟩ := I2.fr
    refine PySem.W.sub_K fr I2.ok.mod.kin J h1 h3 h2 ?_ (hsl _ _)
    exact run_any h5 hr.in1 I2.env0.in1 h4 (passAt tk σ) I2 (.cons (show L2.RelV (.ref p) (.ref p) from rfl) (.cons ry .nil)) q

/-! ### x in y -/
def inE (neg : Bool) (hs : Hd) (d e : D) (s : HS) : Res := match e with
  | .ins c fs => match hs.at c with
    | some g => (g [.ins c fs, d] s).bindB fun b s1 => .ret (.bl (if neg then !b else b)) s1
    | none => .stuck
  | .dic kvs => match d with
    | .str x => .ret (.bl (if neg then !(kvs.any fun kv => decide (kv.1 = .inr x)) else kvs.any fun kv => decide (kv.1 = .inr x))) s
    | _ => .stuck
  | e => Res.opt (inF neg d e) s
def inR (B : Bs) (neg : Bool) (hs : Hd) (x y : V) (H : Hp) (Q : VK) (E : XK) : Prop :=
  (o_in B neg).r x y H Q ∨ (∃ p kvs z, y = .ref p ∧ H p = some (.dK kvs) ∧ x = .str z ∧ Q (.bl (if neg then !(valV kvs (.inr z)).isSome else (valV kvs (.inr z)).isSome)) H) ∨
    ownR B hs 2 y [x] H (fun v H' => ∃ b, v = .bl b ∧ Q (.bl (if neg then !b else b)) H') E
theorem repK_any {B : Bs} {w : Wd} {F : Hp} {k : Key} : ∀ {kvs : List (Key × D)} {xs : List (Key × V)}, RepK B w F kvs xs → (valV xs k).isSome = kvs.any fun kv => decide (kv.1 = k)
  | [], _, r => by rw [repK_nil.mp r]; rfl
  | (k1, d) :: kvs, _, r => by
    obtain ⟨v, xs, rfl, _, h2⟩ := repK_cons.mp r
    have ih := repK_any (k := k) h2
    unfold valV at ih ⊢
    rw [List.find?_cons, List.any_cons]
    by_cases hk : k1 = k
    · rw [decide_eq_true hk]; rfl
    · rw [decide_eq_false hk, Bool.false_or]; exact ih
def XE.in {B : Bs} (neg : Bool) (hs : Hd) (a b : XE B) : XE B where
  te := fun Wx σ H Q => a.te Wx σ H fun x H1 => b.te Wx σ H1 fun y H2 => inR B neg hs x y H2 Q (WE Wx σ)
  ev := fun Γ s => (a.ev Γ s).bind fun d s1 => (b.ev Γ s1).bind fun e s2 => inE neg hs d e s2
  ok := fun {w F H σ Γ s} Wx e st sl => by
    refine (a.ok Wx e st sl).seq (u := fun x H1 Q => b.te Wx σ H1 fun y H2 => inR B neg hs x y H2 Q (WE Wx σ)) fun d s1 v F1 H1 _ a1 st1 r1 => ?_
    refine (b.ok Wx a1.fh st1 (sl.step a1)).seq (u := fun y H2 Q => inR B neg hs v y H2 Q (WE Wx σ)) fun d2 s2 v2 F2 H2 _ a2 st2 r2 => ?_
    have r1' := r1.mono a2.ff
    cases d2 with
    | ins c fs =>
      show OkE B w F2 H2 σ Wx _ (match hs.at c with
        | some g => (g [.ins c fs, d] s2).bindB fun b s1 => .ret (.bl (if neg then !b else b)) s1
        | none => .stuck)
      cases hg : hs.at c with
      | none => trivial
      | some g =>
        have h := ownR_ok (σ := σ) (Wx := Wx) g hg rfl a2.fh st2 r2 (reps_cons.mpr ⟨v, [], rfl, r1', reps_nil.mpr rfl⟩)
        show OkE B w F2 H2 σ Wx _ ((g [.ins c fs, d] s2).bindB fun b s1 => .ret (.bl (if neg then !b else b)) s1)
        cases hr : g [.ins c fs, d] s2 with
        | stuck => trivial
        | exc c1 f1 s3 => rw [hr] at h; exact fun hx Q => .inr (.inr (h hx _))
        | ret z s3 =>
          rw [hr] at h
          cases z with
          | bl b => exact fun Q q => .inr (.inr (h _ fun v' F' H' a' b' c' => ⟨b, rep_bl.mp c', q _ F' H' a' b' (rep_bl.mpr rfl)⟩))
          | _ => trivial
    | dic kvs =>
      cases d with
      | str x =>
        cases rep_str.mp r1'
        obtain ⟨p, xs, rfl, h1, h2⟩ := rep_dic.mp r2
        refine OkP.imp (OkE.pure a2.fh st2 (rep_bl.mpr rfl)) fun Q q => .inr (.inl ⟨p, xs, x, rfl, a2.fh _ _ h1, rfl, ?_⟩)
        rw [repK_any h2]
        exact q
      | _ => trivial
    | _ => exact OkP.imp (((o_in B neg).ok a2.fh r1' r2).toE st2) fun Q q => .inl q
end Dv

set_option Elab.async false
set_option linter.all false
set_option maxRecDepth 100000
/-! # Own classes: in, len, fields, properties, new instances -/
namespace Dv
open PySem PySem.Spec PyProof.Rows L2 Evl

theorem pe_inU {B : Bs} {X : Cx} {hs : Hd} {k : Nat} {neg : Bool} {op : CmpOp} {a b : Expr} {ta tb : TE} {pos : Pos} {Wx : WX} (hop : op = if neg then .NotIn else .In) (hK : B.K = X.K) (tk : Takes X Wx) (hr : Room k X.A) (hM : ∀ c g, hs.at c = some g → OwnM B X k "__contains__" 2 c g) (ha : PE X a ta) (hb : PE X b tb)
    (hm : behindInMarks op b = false := by with_unfolding_all rfl) :
    PE X (.Compare a [op] [b] pos) (fun σ H Q => ta σ H fun x H1 => tb σ H1 fun y H2 => inR B neg hs x y H2 Q (WE Wx σ)) := by
  refine ⟨fun pins s σ H Q I h => ?_⟩
  refine wpAny_Compare1 (binT ha hb I h fun v u s2 x y H2 I2 rx ry q => ?_) hm
  have hu : X.A.units + 1 < cLine := by have := hr.units; omega
  rcases q with q | ⟨p, kvs, z, rfl, h1, rfl, q⟩ | ⟨c, g, p, dx, fs, hg, rfl, hp2, q⟩
  · have q' : rIn X.K neg x y H2 Q := by rw [← hK]; exact q
    cases neg with
    | false => subst hop; exact op_in_seq pins s2 σ H2 x y v u Q I2 rx ry q'
    | true => subst hop; exact op_notIn_seq pins s2 σ H2 x y v u Q I2 rx ry q'
  · cases (show u = Value.ref p from ry)
    have g : DGet H2 p (.str z) (valV kvs (.inr z)) := DGet.k (k := Sum.inr z) h1
    cases neg with
    | false => subst hop; exact d_in hu I2 g rx fun s3 I3 => ⟨.bl _, H2, I3, rfl, q⟩
    | true => subst hop; exact d_notIn hu I2 g rx fun s3 I3 => ⟨.bl _, H2, I3, rfl, q⟩
  · obtain ⟨f, fd, ps, h1, h2, h3, _, _, h4, _, h5⟩ := (hM c g hg).ex
    cases (show u = Value.ref p from ry)
    obtain ⟨ox, od, J⟩ := inst_of I2 hp2
    obtain ⟨m, fr⟩ := I2.fr
    have run := run_any (us := [.ref p, v]) h5 hr I2.env0 h4 (passAt tk σ) I2 (.cons (show L2.RelV (.ref p) (.ref p) from rfl) (.cons rx .nil)) q
    cases neg with
    | false =>
      subst hop
      refine PySem.W.in_K fr I2.ok.mod.kin J h1 h2 (wpAny_mono run (fun r s3 z => ?_) fun _ _ z => z)
      obtain ⟨w', H3, I3, rw', b, rfl, q3⟩ := z
      cases (show r = Value.bool b from rw')
      exact wpAny_truthy_bool ⟨.bl b, H3, I3, rfl, q3⟩
    | true =>
      subst hop
      refine PySem.W.notIn_K fr I2.ok.mod.kin J h1 h2 (wpAny_mono run (fun r s3 z => ?_) fun _ _ z => z)
      obtain ⟨w', H3, I3, rw', b, rfl, q3⟩ := z
      cases (show r = Value.bool b from rw')
      exact wpAny_truthy_bool ⟨.bl (!b), H3, I3, rfl, q3⟩

/-! ### len(x) -/
def lenE (hs : Hd) (d : D) (s : HS) : Res := match d with
  | .ins c fs => match hs.at c with
    | some g => match g [.ins c fs] s with
      | .ret (.int n) s1 => if 0 ≤ n ∧ n < 2 ^ 63 then .ret (.int n) s1 else .stuck
      | _ => .stuck
    | none => .stuck
  | d => Res.opt (lenF d) s
def lenR (B : Bs) (hs : Hd) (xs : List V) (H : Hp) (Q : VK) : Prop :=
  (o_len B).r xs H Q ∨ ∃ x, xs = [x] ∧ ownR B hs 1 x [] H (fun v H' => ∃ n : Int, v = .int n ∧ (0 ≤ n ∧ n < 2 ^ 63) ∧ Q (.int n) H') (fun _ _ _ => False)
def XE.len {B : Bs} (hs : Hd) (p : XE B) : XE B where
  te := fun Wx => tCB (lenR B hs) (tas Wx [p])
  ev := fun Γ s => (p.ev Γ s).bind fun d s1 => lenE hs d s1
  ok := fun {w F H σ Γ s} Wx e st sl => by
    refine (p.ok Wx e st sl).seq (u := fun x H1 Q => lenR B hs [x] H1 Q) fun d s1 v F1 H1 _ a1 st1 r1 => ?_
    cases d with
    | ins c fs =>
      show OkE B w F1 H1 σ Wx _ (match hs.at c with
        | some g => match g [.ins c fs] s1 with
          | .ret (.int n) s1 => if 0 ≤ n ∧ n < 2 ^ 63 then .ret (.int n) s1 else .stuck
          | _ => .stuck
        | none => .stuck)
      cases hg : hs.at c with
      | none => trivial
      | some g =>
        have h := ownR_ok (σ := σ) (Wx := fun _ _ _ _ => False) g hg rfl a1.fh st1 r1 (reps_nil.mpr rfl)
        show OkE B w F1 H1 σ Wx _ (match g [.ins c fs] s1 with
          | .ret (.int n) s1 => if 0 ≤ n ∧ n < 2 ^ 63 then .ret (.int n) s1 else .stuck
          | _ => .stuck)
        cases hr : g [.ins c fs] s1 with
        | stuck => trivial
        | exc c1 f1 s3 => trivial
        | ret z s3 =>
          rw [hr] at h
          cases z with
          | int n =>
            show OkE B w F1 H1 σ Wx _ (if 0 ≤ n ∧ n < 2 ^ 63 then .ret (.int n) s3 else .stuck)
            by_cases hc : 0 ≤ n ∧ n < 2 ^ 63
            · rw [if_pos hc]
              exact fun Q q => .inr ⟨v, rfl, h _ fun v' F' H' a' b' c' => ⟨n, rep_int.mp c', hc, q _ F' H' a' b' (rep_int.mpr rfl)⟩⟩
            · rw [if_neg hc]; trivial
          | _ => trivial
    | _ => exact OkP.imp (((o_len B).ok a1.fh (ds := [_]) (xs := [v]) (reps_cons.mpr ⟨v, [], rfl, r1, reps_nil.mpr rfl⟩)).toE st1) fun Q q => .inl q
theorem call_lenU {B : Bs} {X : Cx} {hs : Hd} {k : Nat} (hK : B.K = X.K) (hr : Room (k + 1) X.A) (hM : ∀ c g, hs.at c = some g → OwnM B X k "__len__" 1 c g) : CallR X (.builtin "len") (lenR B hs) := by
  intro pins s σ H xs us Q I rs h
  rcases h with h | ⟨x, rfl, c, g, p, dx, fs, hg, rfl, hp2, q⟩
  · have h' : (fun xs H (Q : VK) => ∃ x n, xs = [x] ∧ LenV X.K x H n ∧ Q (.int n) H) xs H Q := by rw [← hK]; exact h
    exact call_len pins s σ H xs us Q I rs h'
  · obtain ⟨f, fd, ps, h1, h2, h3, _, _, h4, _, h5⟩ := (hM c g hg).ex
    obtain ⟨u, rfl, ru⟩ := rs.one
    cases (show u = Value.ref p from ru)
    obtain ⟨ox, od, J⟩ := inst_of I hp2
    obtain ⟨m, fr⟩ := I.fr
    refine PySem.W.len_K fr I.ok.mod.kin J h1 h2 (wpAny_mono (run_any (us := [.ref p]) h5 hr.in1 I.env0.in1 h4 (fun _ _ _ _ _ _ z => ?_) I (.cons (show L2.RelV (.ref p) (.ref p) from rfl) .nil) q) (fun r s3 z => ?_) fun _ _ z => z)
    · obtain ⟨_, _, _, _, _, _, _, _, _, _, _, _, w'⟩ := z
      exact w'.elim
    · obtain ⟨w', H3, I3, rw', n, rfl, hc, q3⟩ := z
      obtain ⟨t, rfl⟩ := (show ∃ t, r = Value.int n t from rw')
      exact ⟨hc, .int n, H3, I3.tok _, ⟨_, rfl⟩, q3⟩

/-! ### x.f -/
/-- what an attribute of a class is: stored, or a property by a getter -/
inductive At where
  | fld | prop (g : Gf)
abbrev Ats := List (Str × At)
def Ats.at (hs : Ats) (c : Str) : Option At := (hs.find? fun h => decide (h.1 = c)).map (·.2)
def atR (B : Bs) (hs : Ats) (f : Str) (x : V) (H : Hp) (Q : VK) (E : XK) : Prop :=
  (∃ c p dx fs v, hs.at c = some .fld ∧ x = .ref p ∧ H p = some (.ins (B.ca c) dx fs) ∧ fs.lookup f = some v ∧ Q v H) ∨
    ∃ c g p dx fs, hs.at c = some (.prop g) ∧ x = .ref p ∧ H p = some (.ins (B.ca c) dx fs) ∧ spD B 1 g [x] H Q E
def atE (hs : Ats) (f : Str) (d : D) (s : HS) : Res := match d with
  | .ins c fs => match hs.at c with
    | some .fld => Res.opt (fs.lookup f) s
    | some (.prop g) => g [.ins c fs] s
    | none => .stuck
  | _ => .stuck
theorem repF_lookup {B : Bs} {w : Wd} {F : Hp} {f : Str} {d : D} : ∀ {fs : List (Str × D)} {xs : List (Str × V)}, RepF B w F fs xs → fs.lookup f = some d → ∃ v, xs.lookup f = some v ∧ Rep B w F d v
  | [], _, _, h => by cases h
  | (k, e) :: fs, _, r, h => by
    obtain ⟨v, xs, rfl, h1, h2⟩ := repF_cons.mp r
    unfold List.lookup at h ⊢
    cases hk : f == k with
    | true => rw [hk] at h; cases h; exact ⟨v, rfl, h1⟩
    | false => rw [hk] at h; exact repF_lookup h2 h
def XE.at {B : Bs} (hs : Ats) (f : Str) (p : XE B) : XE B where
  te := fun Wx σ H Q => p.te Wx σ H fun x H1 => atR B hs f x H1 Q (WE Wx σ)
  ev := fun Γ s => (p.ev Γ s).bind fun d s1 => atE hs f d s1
  ok := fun {w F H σ Γ s} Wx e st sl => by
    refine (p.ok Wx e st sl).seq (u := fun x H1 Q => atR B hs f x H1 Q (WE Wx σ)) fun d s1 v F1 H1 _ a1 st1 r1 => ?_
    cases d with
    | ins c fs =>
      obtain ⟨q, dx, xs, rfl, h1, h2⟩ := rep_ins.mp r1
      show OkE B w F1 H1 σ Wx _ (match hs.at c with
        | some .fld => Res.opt (fs.lookup f) s1
        | some (.prop g) => g [.ins c fs] s1
        | none => .stuck)
      cases hg : hs.at c with
      | none => trivial
      | some t =>
        cases t with
        | fld =>
          show OkE B w F1 H1 σ Wx _ (Res.opt (fs.lookup f) s1)
          cases hl : fs.lookup f with
          | none => trivial
          | some d =>
            obtain ⟨v, e1, rv⟩ := repF_lookup h2 hl
            exact OkP.imp (OkE.pure a1.fh st1 rv) fun Q q' => .inl ⟨c, q, dx, xs, v, hg, rfl, a1.fh _ _ h1, e1, q'⟩
        | prop g => exact OkP.imp (spD_use (g := g) (ds := [.ins c fs]) (vs := [.ref q]) rfl a1.fh st1 (reps_cons.mpr ⟨_, _, rfl, r1, reps_nil.mpr rfl⟩)) fun Q q' => .inr ⟨c, g, q, dx, xs, hg, rfl, a1.fh _ _ h1, q'⟩
    | _ => trivial
/-- what the top has made of an attribute -/
def AtOk (B : Bs) (X : Cx) (k : Nat) (f c : Str) : At → Prop
  | .fld => Cls X.K (B.ca c) ∧ NoAttr X.K (B.ca c) f
  | .prop g => Cls X.K (B.ca c) ∧ ∃ p fa fd ps, PropOf X.K (B.ca c) f p fa ∧ Binds X.K fd ps [] ∧ ps.length = 1 ∧ FnOk X.prog X.w X.K X.mg X.base (L2.CX X.prog X.w) k fa fd ps (spD B 1 g)
theorem CXnever {P : Program} {w : World} {o : List Env} {H : Hp} {s s' : Shared} {e : Value} (h : L2.CX P w o H s (fun _ _ _ => False) e s') : False := by
  obtain ⟨_, _, _, _, _, _, _, _, _, _, _, _, z⟩ := h
  exact z
theorem pe_atU {B : Bs} {X : Cx} {hs : Ats} {k : Nat} {f : Str} {e : Expr} {te : TE} {pos : Pos} {Wx : WX} (hr : Room (k + 1) X.A) (hM : ∀ c t, hs.at c = some t → AtOk B X k f c t) (he : PE X e te) (hne : ∀ c g, hs.at c = some (.prop g) → ∀ ds s c' fs s', g ds s ≠ .exc c' fs s')
    (hb : attributeBase e f X.env (eval e X.env) = eval e X.env := by rfl) : PE X (.Attribute e f pos) (fun σ H Q => te σ H fun x H1 => atR B hs f x H1 Q (WE Wx σ)) := by
  refine ⟨fun pins s σ H Q I h => ?_⟩
  refine attr_of hb (thn (he.run pins s σ H _ I h) fun u s1 ⟨x, H1, I1, rx, q⟩ => ?_)
  rcases q with ⟨c, p, dx, fs, v, hc, rfl, hp, hl, q⟩ | ⟨c, g, p, dx, fs, hc, rfl, hp, q⟩
  · obtain ⟨h1, h2⟩ := hM c .fld hc
    obtain rfl : u = Value.ref p := rx
    exact getattr_ok I1 hp h1 h2 hl fun u' s2 I2 ru => ⟨v, H1, I2, ru, q⟩
  · obtain ⟨h1, p', fa, fd, ps, h2, h3, h4, h5⟩ := hM c (.prop g) hc
    obtain rfl : u = Value.ref p := rx
    refine getprop_ok (E := fun _ _ _ => False) I1 hp h1 h2 h5 hr h3 .nil (fun _ _ _ _ _ _ _ z => CXnever z) ?_
    obtain ⟨w, F, ds, s0, k1, k2, k3, k4, k5⟩ := q
    refine ⟨w, F, ds, s0, k1, k2, k3, k4, ?_⟩
    cases hg : g ds s0 with
    | stuck => rw [hg] at k5; exact k5
    | ret d s' => rw [hg] at k5; exact k5
    | exc c' fs' s' => exact absurd hg (hne c g hc ds s0 c' fs' s')
end Dv

set_option Elab.async false
set_option linter.all false
set_option maxRecDepth 100000
/-! # New instances, their __init__, fields stored -/
namespace Dv
open PySem PySem.Spec PyProof.Rows L2 Evl

/-- what __init__ promises: the fields of the new instance -/
def spI (B : Bs) (c : Str) (n : Nat) (g : Gf) : Sp := fun vs H Q E => ∃ (w : Wd) (F : Hp) (ds : List D) (s : HS) (p dx : Addr) (us : List V), vs = .ref p :: us ∧ ds.length = n ∧ Ex F H ∧ StAt w s F H ∧ Reps B w F ds us ∧ H p = some (.ins (B.ca c) dx []) ∧ F p = none ∧ Off w p ∧
  (match g ds s with
  | .ret (.ins c' fs) s' => c' = c ∧ ∀ F' H' dx' xs, Ex F F' → Ex F' H' → (∀ a o, H a = some o → F a = none → Off w a → a ≠ p → F' a = none ∧ H' a = some o) → StAt w s' F' H' → F' p = none → H' p = some (.ins (B.ca c) dx' xs) → RepF B w F' fs xs → Q .non H'
  | .exc c' fs s' => ∀ od F' H', Ex F F' → Ex F' H' → (∀ a o, H a = some o → F a = none → Off w a → a ≠ p → F' a = none ∧ H' a = some o) → StAt w s' F' H' → ExAt B w F' fs od → E (.ref (B.ca c')) od H'
  | _ => False)
theorem spI_len {B : Bs} {c : Str} {n : Nat} {g : Gf} {vs : List V} {H : Hp} {Q : VK} {E : XK} (h : spI B c n g vs H Q E) : vs.length = n + 1 := by
  obtain ⟨w, F, ds, s, p, dx, us, rfl, hl, _, _, r, _⟩ := h
  rw [List.length_cons, r.length, hl]
/-- C(..) -/
def XE.make {B : Bs} (c : Str) (n : Nat) (g : Gf) (ps : List (XE B)) (hn : ps.length = n) (hc : ∀ ds s d s', g ds s = .ret d s' → ∃ fs, d = .ins c fs) : XE B where
  te := fun Wx σ H Q => tas Wx ps σ H fun vs H1 => ∀ x dx, H1 x = none → H1 dx = none → dx ≠ x → spI B c n g (.ref x :: vs) (upd (upd H1 dx (.own x)) x (.ins (B.ca c) dx [])) (fun v H2 => v = .non ∧ Q (.ref x) H2) (WE Wx σ)
  ev := fun Γ s => evs Γ ps s g
  ok := fun {w F H σ Γ s} Wx e st sl => by
    refine evs_ok Wx ps (u := fun vs H1 Q => ∀ x dx, H1 x = none → H1 dx = none → dx ≠ x → spI B c n g (.ref x :: vs) (upd (upd H1 dx (.own x)) x (.ins (B.ca c) dx [])) (fun v H2 => v = .non ∧ Q (.ref x) H2) (WE Wx σ)) e st sl fun ds s1 vs F1 H1 a st1 r hl => ?_
    have prep : ∀ {x dx : Addr}, H1 x = none → H1 dx = none → dx ≠ x → Ex F1 (upd (upd H1 dx (.own x)) x (.ins (B.ca c) dx [])) ∧ StAt w s1 F1 (upd (upd H1 dx (.own x)) x (.ins (B.ca c) dx [])) ∧ F1 x = none ∧ Off w x := fun {x dx} hx hd ne => by
      have e1 : Ex F1 (upd H1 dx (.own x)) := Ex.mut a.fh (fresh_back a.fh hd)
      have s1' := st1.newO (o := .own x) hd
      have hx' : (upd H1 dx (.own x)) x = none := by rw [upd_ne ne.symm]; exact hx
      exact ⟨Ex.mut e1 (fresh_back a.fh hx), s1'.newO hx', fresh_back a.fh hx, Off.fresh st1 hx⟩
    have rest : ∀ {x dx : Addr} {F' H' : Hp}, H1 x = none → H1 dx = none → (∀ b o, (upd (upd H1 dx (.own x)) x (.ins (B.ca c) dx [])) b = some o → F1 b = none → Off w b → b ≠ x → F' b = none ∧ H' b = some o) →
        ∀ b o, H1 b = some o → F1 b = none → Off w b → F' b = none ∧ H' b = some o := fun {x dx F' H'} hx hd k b o h1 h2 h3 => by
      have n1 : b ≠ x := ne_of_none h1 hx
      have n2 : b ≠ dx := ne_of_none h1 hd
      exact k b o (by rw [upd_ne n1, upd_ne n2]; exact h1) h2 h3 n1
    cases hg : g ds s1 with
    | stuck => trivial
    | exc c' fs s' =>
      intro hx Q x dx h1 h2 ne
      obtain ⟨p1, p2, p3, p4⟩ := prep h1 h2 ne
      refine ⟨w, F1, ds, s1, x, dx, vs, rfl, hl.trans hn, p1, p2, r, upd_same, p3, p4, ?_⟩
      rw [hg]
      exact fun od F' H' k1 k2 k3 k4 k5 => hx od F' H' ⟨k1, k2, rest h1 h2 k3⟩ k4 k5
    | ret d s' =>
      obtain ⟨fs, rfl⟩ := hc ds s1 d s' hg
      intro Q q x dx h1 h2 ne
      obtain ⟨p1, p2, p3, p4⟩ := prep h1 h2 ne
      refine ⟨w, F1, ds, s1, x, dx, vs, rfl, hl.trans hn, p1, p2, r, upd_same, p3, p4, ?_⟩
      rw [hg]
      refine ⟨rfl, fun F' H' dx' xs k1 k2 k3 k4 k5 k6 k7 => ⟨rfl, ?_⟩⟩
      have stp : Step w F1 H1 F' H' := ⟨k1, k2, rest h1 h2 k3⟩
      exact q (.ref x) (upd F' x (.ins (B.ca c) dx' xs)) H' (stp.frz h1 k5 k6) (k4.frz p4) (rep_ins.mpr ⟨x, dx', xs, rfl, upd_same, k7.mono (Ex.new k5)⟩)
theorem pe_makeU {B : Bs} {X : Cx} {c x : Str} {n k : Nat} {g : Gf} {f : Addr} {fd : FuncData} {ps : List Str} {e : Expr} {es : List Expr} {t : TA} {p pos : Pos} {Wx : WX} (hK : B.K = X.K) (tk : Takes X Wx) (M : Mk X.K (B.ca c) f) (Fn : FnOk X.prog X.w X.K X.mg X.base (L2.CX X.prog X.w) k f fd ps (spI B c n g)) (hr : Room (k + 1) X.A)
    (hg : Gl X x) (hm : X.mg x = some (.ref (B.ca c))) (hb : Binds X.K fd ps []) (ha : PA X (e :: es) t) (hdb : (x == ("__debug__" : Str)) = false := by decide) (he : starEach (e :: es) X.env = (false, eval e X.env) :: starEach es X.env := by rfl) (hpl : (backTo pos (starEach es X.env)).any (·.1) = false := by rfl) :
    PE X (.Call (.Name x p) (e :: es) [] pos) (fun σ H Q => t σ H fun vs H1 => ∀ y dx, H1 y = none → H1 dx = none → dx ≠ y → spI B c n g (.ref y :: vs) (upd (upd H1 dx (.own y)) y (.ins (B.ca c) dx [])) (fun v H2 => v = .non ∧ Q (.ref y) H2) (WE Wx σ)) := by
  refine ⟨fun pins s σ H Q I h => ?_⟩
  refine wpAny_Call_Name_kw (ld_glob I hg hm ?_ hdb)
  refine PySem.W.callWith_K (h₀ := X.base) I.ok.mod.kin M.kp (thn (ha.run pos pins s σ H _ I h) fun us s1 ⟨vs, H1, I1, r, q⟩ => ⟨I1.kIn, ?_⟩) he hpl
  have hq := q (s1.heap.objs.size + 1) s1.heap.objs.size (I1.hok.fresh (Nat.le_succ _)) (I1.hok.fresh (Nat.le_refl _)) (Nat.ne_of_lt (Nat.lt_succ_self _))
  have I2 := Inv.made (C := B.ca c) I1
  have r2 : Vals (V.ref (s1.heap.objs.size + 1) :: vs) (Value.ref (s1.heap.objs.size + 1) :: us) := .cons (show L2.RelV (.ref _) (.ref _) from rfl) r
  have len : (Value.ref (s1.heap.objs.size + 1) :: us).length = ps.length := by
    rw [← r2.length]
    exact Fn.len _ _ _ _ hq
  have bt := hb _ (Value.ref (s1.heap.objs.size + 1) :: us) I2.kIn (by rw [List.append_nil]; exact len)
  rw [List.append_nil] at bt
  refine wpAny_call (make_map (f := f) I1.kIn M.makes M.init (beq_iff_eq.mp M.fn) (codeAny_mono (Fn.run _ X.stack _ _ ⟨Value.ref (s1.heap.objs.size + 1) :: us, []⟩ _ _ _ (WE Wx σ) (hr.make (B.ca c) us []) (I2.env0.make (B.ca c) us []) bt r2 hq) fun rr s' z => ?_))
  cases rr with
  | error x => exact passAt tk σ pins _ _ x s' I2 z
  | ok fl =>
    cases fl with
    | ret u =>
      obtain ⟨v, H', I3, rv, ev, q3⟩ := I2.after z
      subst ev
      exact ⟨rv, ⟨.ref (s1.heap.objs.size + 1), H', I3, rfl, q3⟩⟩
    | _ => exact z.elim

/-! ### the body of an __init__ -/
def Out.ini (o : Out) : Res := match o with
  | .nxt Γ s => match (Γ[0]? : Option Sl) with
    | some (.io c fs) => .ret (.ins c fs) s
    | _ => .stuck
  | .exc c fs _ s => .exc c fs s
  | _ => .stuck
def XS.ini {B : Bs} (p : XS B) (c : Str) (m : Nat) : Gf := fun ds s => match (p.ev (.io c [] :: (ds.map Sl.fr ++ List.replicate (m - (ds.length + 1)) Sl.no)) s).ini with
  | .ret (.ins c' fs) s' => if c' = c then .ret (.ins c' fs) s' else .stuck
  | .exc c' fs s' => .exc c' fs s'
  | _ => .stuck
theorem XS.ini_ins {B : Bs} {p : XS B} {c : Str} {m : Nat} (ds : List D) (s : HS) (d : D) (s' : HS) (h : p.ini c m ds s = .ret d s') : ∃ fs, d = .ins c fs := by
  unfold XS.ini at h
  split at h
  · split at h
    · rename_i hc
      cases h
      exact ⟨_, by rw [hc]⟩
    · cases h
  · cases h
  · cases h
open Classical in
theorem ini_ok {B : Bs} {c : Str} {n : Nat} {N : List Str} {p : XS B} {vs : List V} {H : Hp} {Q : VK} {E : XK} (h : spI B c n (p.ini c N.length) vs H Q E) :
    (p.ts fun cls d _ H => E cls d H) { nx := fun _ H' => Q .non H', rt := Q } (L2.start N vs) H := by
  obtain ⟨w, F, ds, s, q, dx, us, rfl, hl, e, st, r, hp, hF, hO, hm⟩ := h
  have hlen := r.length
  obtain ⟨Z, hZ⟩ : ∃ Z : Hp, Z = fun a => if F a = none ∧ Off w a ∧ a ≠ q then H a else none := ⟨_, rfl⟩
  have zof : ∀ {a : Addr} {o : HO}, Z a = some o → F a = none ∧ H a = some o ∧ Off w a ∧ a ≠ q := fun {a o} hz => by
    rw [hZ] at hz
    by_cases hc : F a = none ∧ Off w a ∧ a ≠ q
    · have h' : (if F a = none ∧ Off w a ∧ a ≠ q then H a else none) = some o := hz
      rw [if_pos hc] at h'
      exact ⟨hc.1, h', hc.2⟩
    · have h' : (if F a = none ∧ Off w a ∧ a ≠ q then H a else none) = some o := hz
      rw [if_neg hc] at h'; cases h'
  have zmk : ∀ {a : Addr} {o : HO}, H a = some o → F a = none → Off w a → a ≠ q → Z a = some o := fun {a o} h1 h2 h3 h4 => by
    rw [hZ]
    show (if F a = none ∧ Off w a ∧ a ≠ q then H a else none) = some o
    rw [if_pos ⟨h2, h3, h4⟩]
    exact h1
  have zq : Z q = none := by
    cases hz : Z q with
    | none => rfl
    | some o => exact absurd rfl (zof hz).2.2.2
  have own0 : ∀ {i : Nat} {t : Sl}, (Sl.io c [] :: (ds.map Sl.fr ++ List.replicate (N.length - (ds.length + 1)) Sl.no))[i]? = some t → owned t = true → i = 0 := fun {i t} h1 h2 => by
    cases i with
    | zero => rfl
    | succ i =>
      exfalso
      rw [List.getElem?_cons_succ] at h1
      by_cases hi : i < ds.length
      · rw [List.getElem?_append_left (by simpa using hi), List.getElem?_map] at h1
        cases hd : ds[i]? with
        | none => rw [hd] at h1; cases h1
        | some d => rw [hd] at h1; cases h1; cases h2
      · rw [List.getElem?_append_right (by simp; omega), List.getElem?_replicate] at h1
        split at h1
        · cases h1; cases h2
        · cases h1
  have g : Good B w ⟨Z, q⟩ F H (L2.start N (.ref q :: us)) (Sl.io c [] :: (ds.map Sl.fr ++ List.replicate (N.length - (ds.length + 1)) Sl.no)) s := by
    refine ⟨e, st, fun i t h1 => ?_, fun a o hz => ⟨(zof hz).1, (zof hz).2.1, (zof hz).2.2.1⟩, fun i t p h1 h2 h3 => ?_, fun i j t u p h1 h1' h2 h2' _ _ => ?_, ?_, fun c fs _ => ?_⟩
    · unfold L2.start
      cases i with
      | zero =>
        cases h1
        exact ⟨some (.ref q), by simp, q, dx, [], rfl, hF, hO, hp, repF_nil.mpr rfl⟩
      | succ i =>
        rw [List.getElem?_cons_succ] at h1
        by_cases hi : i < ds.length
        · rw [List.getElem?_append_left (by simpa using hi), List.getElem?_map] at h1
          cases hd : ds[i]? with
          | none => rw [hd] at h1; cases h1
          | some d =>
            rw [hd] at h1
            cases h1
            obtain ⟨v, k1, k2⟩ := r.get hd
            refine ⟨some v, ?_, v, rfl, k2⟩
            rw [List.map_cons, List.cons_append, List.getElem?_cons_succ, List.getElem?_append_left (by simp; omega), List.getElem?_map, k1] <;> rfl
        · rw [List.getElem?_append_right (by simp; omega), List.getElem?_replicate] at h1
          split at h1
          · cases h1
            refine ⟨none, ?_, trivial⟩
            rw [List.map_cons, List.cons_append, List.getElem?_cons_succ, List.getElem?_append_right (by simp; omega), List.getElem?_replicate, if_pos (by simp at *; omega)]
          · cases h1
    · have hi := own0 h1 h2
      subst hi
      unfold L2.start at h3
      have : p = q := by simpa using h3.symm
      rw [this]; exact zq
    · rw [own0 h1 h2, own0 h1' h2']
    · unfold L2.start
      simp [hlen]
    · unfold L2.start
      simp
  have z := p.ok (fun cls d _ H => E cls d H) { nx := fun _ H' => Q .non H', rt := Q } g
  have keep : ∀ {F' H' : Hp} {s' : HS}, Gone B w ⟨Z, q⟩ F' H' s' → ∀ a o, H a = some o → F a = none → Off w a → a ≠ q → F' a = none ∧ H' a = some o := fun {F' H' s'} g' a o h1 h2 h3 h4 =>
    let ⟨k1, k2, _⟩ := g'.zz a o (zmk h1 h2 h3 h4); ⟨k1, k2⟩
  unfold XS.ini at hm
  cases ho : p.ev (Sl.io c [] :: (ds.map Sl.fr ++ List.replicate (N.length - (ds.length + 1)) Sl.no)) s with
  | exc c' fs Γ s' =>
    rw [ho] at z hm
    exact z fun od F' H' σ' e' g' x => hm od F' H' e' g'.fh (keep g'.gone) g'.st x
  | nxt Γ s' =>
    rw [ho] at z hm
    refine z fun F' H' σ' e' g' => ?_
    have hm2 : (match (match (match (Γ[0]? : Option Sl) with
        | some (.io c fs) => Res.ret (.ins c fs) s'
        | _ => .stuck) with
      | .ret (.ins c' fs) s' => if c' = c then Res.ret (.ins c' fs) s' else .stuck
      | .exc c' fs s' => .exc c' fs s'
      | _ => .stuck) with
      | .ret (.ins c' fs) s' => c' = c ∧ ∀ F' H' dx' xs, Ex F F' → Ex F' H' → (∀ a o, H a = some o → F a = none → Off w a → a ≠ q → F' a = none ∧ H' a = some o) → StAt w s' F' H' → F' q = none → H' q = some (.ins (B.ca c) dx' xs) → RepF B w F' fs xs → Q .non H'
      | .exc c' fs s' => ∀ od F' H', Ex F F' → Ex F' H' → (∀ a o, H a = some o → F a = none → Off w a → a ≠ q → F' a = none ∧ H' a = some o) → StAt w s' F' H' → ExAt B w F' fs od → E (.ref (B.ca c')) od H'
      | _ => False) := hm
    cases h0 : (Γ[0]? : Option Sl) with
    | none => rw [h0] at hm2; exact hm2.elim
    | some t =>
      rw [h0] at hm2
      cases t with
      | io c' fs =>
        have hm3 : (match (if c' = c then Res.ret (.ins c' fs) s' else .stuck) with
          | .ret (.ins c' fs) s' => c' = c ∧ ∀ F' H' dx' xs, Ex F F' → Ex F' H' → (∀ a o, H a = some o → F a = none → Off w a → a ≠ q → F' a = none ∧ H' a = some o) → StAt w s' F' H' → F' q = none → H' q = some (.ins (B.ca c) dx' xs) → RepF B w F' fs xs → Q .non H'
          | .exc c' fs s' => ∀ od F' H', Ex F F' → Ex F' H' → (∀ a o, H a = some o → F a = none → Off w a → a ≠ q → F' a = none ∧ H' a = some o) → StAt w s' F' H' → ExAt B w F' fs od → E (.ref (B.ca c')) od H'
          | _ => False) := hm2
        by_cases hc : c' = c
        · rw [if_pos hc] at hm3
          subst hc
          obtain ⟨x, h1, h2⟩ := g'.sl 0 _ h0
          rw [g'.me _ _ h0] at h1
          cases h1
          obtain ⟨p', dx', xs, e1, e2, e3, e4, e5⟩ := h2
          cases e1
          exact hm3.2 F' H' dx' xs e' g'.fh (keep g'.gone) g'.st e2 e4 e5
        · rw [if_neg hc] at hm3; exact hm3.elim
      | _ => exact hm2.elim
  | _ => rw [ho] at hm; exact hm.elim
section
variable {P : Program} {w : World} {mg : Str → Option Value} {base : Heap}
/-- THE RULE for an __init__ -/
theorem init_ok {B : Bs} {x qual : Str} {st : Stmt} {f : Addr} {fd : FuncData} {N ps : List Str} {k n : Nat} {c : Str} {g : Gf} {p : XS B} (Fn : Fun B.K x qual st f fd) (S : FnScope N ps (defScope st)) (hn : ps.length = n + 1) (hg : g = p.ini c N.length)
    (hb : ∀ (cdv : Value) (A : Around) (outer : List Env) (s : Shared) (H : Hp) (E : XK), Room k (A.deeper (envOfC qual (defScope st) s.heap.objs.size f cdv)) →
      PSs (cxOf (L2.CX P w) P w B.K mg base N qual (defScope st) f cdv A outer s H E) (defBody st) (p.ts fun cls d _ H => E cls d H)) :
    FnOk P w B.K mg base (L2.CX P w) (k + 1) f fd ps (spI B c n g) := by
  subst hg
  exact Fn.okX S (fun vs H Q E h => by rw [spI_len h, hn]) fun cdv A outer s H vs Q E hr h => ⟨_, hb cdv A outer s H E hr, ini_ok h⟩
end

/-- self.f = e, while the instance is being made -/
def putD (f : Str) (d : D) : List (Str × D) → List (Str × D)
  | [] => [(f, d)]
  | (g, x) :: r => if g = f then (g, d) :: r else (g, x) :: putD f d r
theorem RepF.put {B : Bs} {w : Wd} {F : Hp} {f : Str} {d : D} {v : V} (r : Rep B w F d v) : ∀ {fs : List (Str × D)} {xs : List (Str × V)}, RepF B w F fs xs → RepF B w F (putD f d fs) (putF f v xs)
  | [], _, h => by
    rw [repF_nil.mp h]
    exact repF_cons.mpr ⟨v, [], rfl, r, repF_nil.mpr rfl⟩
  | (g, x) :: fs, _, h => by
    obtain ⟨u, xs, rfl, h1, h2⟩ := repF_cons.mp h
    show RepF B w F (if g = f then (g, d) :: fs else (g, x) :: putD f d fs) (if g = f then (g, v) :: xs else (g, u) :: putF f v xs)
    by_cases hc : g = f
    · rw [if_pos hc, if_pos hc]; exact repF_cons.mpr ⟨v, xs, rfl, r, h2⟩
    · rw [if_neg hc, if_neg hc]; exact repF_cons.mpr ⟨u, _, rfl, h1, RepF.put r h2⟩
theorem RepF.length {B : Bs} {w : Wd} {F : Hp} : ∀ {fs : List (Str × D)} {xs : List (Str × V)}, RepF B w F fs xs → xs.length = fs.length
  | [], _, h => by rw [repF_nil.mp h] <;> rfl
  | (g, x) :: fs, _, h => by
    obtain ⟨u, xs, rfl, h1, h2⟩ := repF_cons.mp h
    rw [List.length_cons, List.length_cons, RepF.length h2]
/-- o.f = e, o of the class c -/
def tSetC (B : Bs) (c f : Str) (ta tv : TE) : TS := fun D σ H => tv σ H fun y H1 => ta σ H1 fun x H2 => ∃ (a dx : Addr) (fs : List (Str × V)), x = .ref a ∧ H2 a = some (.ins (B.ca c) dx fs) ∧ fs.length < 1000 ∧ D.nx σ (upd H2 a (.ins (B.ca c) dx (putF f y fs)))
/-- what is wanted may be less than what comes -/
def tMo (t : TE) : TE := fun σ H Q => ∃ R : VK, t σ H R ∧ ∀ x H1, R x H1 → Q x H1
theorem pe_mo {X : Cx} {e : Expr} {t : TE} (h : PE X e t) : PE X e (tMo t) := ⟨fun pins s σ H Q I ⟨R, q, i⟩ => thn (h.run pins s σ H R I q) fun u s1 ⟨x, H1, I1, r1, q1⟩ => ⟨x, H1, I1, r1, i x H1 q1⟩⟩
theorem ps_setC {B : Bs} {X : Cx} {c f : Str} {o value : Expr} {ta tv : TE} {pos pos' : Pos} (hK : B.K = X.K) (h : Cls B.K (B.ca c) ∧ NoAttr B.K (B.ca c) f) (ha : PE X o ta) (hv : PE X value tv) (hs : swapsWith value (some (.Attribute o f pos')) pos.line X.env = pure false) :
    PS X (.Assign [.Attribute o f pos'] value pos) (tSetC B c f ta tv) := by
  refine ⟨fun pins s σ H D I q => (ps_fld (pe_mo ha) (pe_mo hv) hs).run pins s σ H D I ⟨_, q, fun y H1 q1 => ⟨_, q1, fun x H2 q2 => ?_⟩⟩⟩
  obtain ⟨a, dx, fs, e, h1, h2, q3⟩ := q2
  rw [hK] at h
  exact ⟨a, B.ca c, dx, fs, e, h1, h.1, h.2, h2, q3⟩
def XS.setF {B : Bs} (c f : Str) (i : Nat) (p : XE B) : XS B where
  ts := fun Wx => tSetC B c f (tVar i) (p.te Wx)
  ev := fun Γ s => match (Γ[i]? : Option Sl) with
    | some (.io c' fs) => if c' = c ∧ fs.length < 1000 then (p.ev Γ s).out Γ fun d s1 => .nxt (Γ.set i (.io c (putD f d fs))) s1 else .stuck
    | _ => .stuck
  ok := fun {w Z F H σ Γ s} Wx D' g => by
    cases hi : (Γ[i]? : Option Sl) with
    | none => trivial
    | some t =>
      cases t with
      | io c' fs =>
        show OkS B w Z F Wx D' _ (if c' = c ∧ fs.length < 1000 then (p.ev Γ s).out Γ fun d s1 => .nxt (Γ.set i (.io c (putD f d fs))) s1 else .stuck)
        by_cases hc : c' = c ∧ fs.length < 1000
        · rw [if_pos hc]
          obtain ⟨rfl, hl⟩ := hc
          obtain ⟨x, h1, q, dx, xs, e1, e2, e3, e4, e5⟩ := g.sl i _ hi
          subst e1
          refine OkE.stm (D' := D') (u := fun v H1 => tVar i σ H1 fun x H2 => ∃ (a dx : Addr) (fs : List (Str × V)), x = .ref a ∧ H2 a = some (.ins (B.ca c') dx fs) ∧ fs.length < 1000 ∧ D'.nx σ (upd H2 a (.ins (B.ca c') dx (putF f v fs)))) (k := fun d s1 => .nxt (Γ.set i (.io c' (putD f d fs))) s1) g (p.ok Wx g.fh g.st g.sl) fun d s1 v F1 H1 _ a g1 r => ?_
          obtain ⟨k1, k2⟩ := a.rest q _ e4 e2 e3
          exact fun k => ⟨.ref q, h1, q, dx, xs, rfl, k2, by rw [e5.length]; exact hl, k F1 _ σ (Ex.refl F1) (g1.upd (fun _ _ _ => ⟨c', fs, rfl⟩) hi rfl h1 k1 e3 ⟨q, dx, putF f v xs, rfl, k1, e3, upd_same, (e5.mono a.ff).put r⟩)⟩
        · rw [if_neg hc]; trivial
      | _ => trivial
end Dv

set_option Elab.async false
set_option linter.all false
set_option maxRecDepth 100000
/-! # Errors: raise, try -/
namespace Dv
open PySem PySem.Spec PyProof.Rows L2 Evl

/-- raise C(e), C without an __init__ of its own -/
def XS.rz {B : Bs} (c : Str) (p : XE B) : XS B where
  ts := fun Wx _ σ H => p.te Wx σ H fun _ H1 => Wx (.ref (B.ca c)) none σ H1
  ev := fun Γ s => (p.ev Γ s).out Γ fun _ s1 => .exc c [] Γ s1
  ok := fun {w Z F H σ Γ s} Wx D' g => OkE.stm g (p.ok Wx g.fh g.st g.sl) (u := fun _ H1 => Wx (.ref (B.ca c)) none σ H1) fun d s1 v F1 H1 _ a g1 r => fun k => k none F1 H1 σ (Ex.refl F1) g1 rfl
/-- the fields that an error's __init__ stores, the last one first -/
def rzD (fns : List Str) (ds : List D) : List (Str × D) := (fns.zip ds).reverse
def rzV (fns : List Str) (vs : List V) : List (Str × V) := (fns.zip vs).reverse
theorem repF_append {B : Bs} {w : Wd} {F : Hp} : ∀ {a b : List (Str × D)} {x y : List (Str × V)}, RepF B w F a x → RepF B w F b y → RepF B w F (a ++ b) (x ++ y)
  | [], _, _, _, h, k => by rw [repF_nil.mp h]; exact k
  | (f, d) :: a, _, _, _, h, k => by
    obtain ⟨v, xs, rfl, h1, h2⟩ := repF_cons.mp h
    exact repF_cons.mpr ⟨v, _, rfl, h1, repF_append h2 k⟩
theorem repF_zip {B : Bs} {w : Wd} {F : Hp} : ∀ {fns : List Str} {ds : List D} {vs : List V}, Reps B w F ds vs → RepF B w F (rzD fns ds) (rzV fns vs)
  | [], ds, vs, r => repF_nil.mpr rfl
  | f :: fns, [], vs, r => by rw [reps_nil.mp r]; exact repF_nil.mpr rfl
  | f :: fns, d :: ds, vs, r => by
    obtain ⟨v, us, rfl, h1, h2⟩ := reps_cons.mp r
    unfold rzD rzV
    rw [List.zip_cons_cons, List.zip_cons_cons, List.reverse_cons, List.reverse_cons]
    exact repF_append (repF_zip h2) (repF_cons.mpr ⟨v, [], rfl, h1, repF_nil.mpr rfl⟩)
/-- its __init__'s promise -/
def spX (C : Addr) (fns : List Str) : Sp := fun vs H Q _ => ∃ (a : Addr) (ws : List V), vs = .ref a :: ws ∧ ws.length = fns.length ∧ H a = some (exo a C none) ∧ ∀ d, H d = none → d ≠ a → Q .non (upd (upd H d (exd d (rzV fns ws))) a (exo a C (some d)))
/-- several values, then a statement's end -/
def evsO {B : Bs} (Γ : Gm) : List (XE B) → HS → (List D → HS → Out) → Out
  | [], s, k => k [] s
  | p :: ps, s, k => (p.ev Γ s).out Γ fun d s1 => evsO Γ ps s1 fun ds s2 => k (d :: ds) s2
theorem evsO_ok {B : Bs} {w : Wd} {Z : Zs} {σ : L2.St} {Γ : Gm} {Wx : WX} {D' : Ends} : ∀ (ps : List (XE B)) {F H : Hp} {s : HS} {k : List D → HS → Out} {u : List V → Hp → Prop}, Good B w Z F H σ Γ s →
    (∀ ds s1 vs F1 H1, Step w F H F1 H1 → Good B w Z F1 H1 σ Γ s1 → Reps B w F1 ds vs → ds.length = ps.length → OkS B w Z F1 Wx D' (u vs H1) (k ds s1)) → OkS B w Z F Wx D' (tas Wx ps σ H fun vs H1 => u vs H1) (evsO Γ ps s k)
  | [], F, H, s, k, u, g, hk => hk [] s [] F H (Step.refl g.fh) g (reps_nil.mpr rfl) rfl
  | p :: ps, F, H, s, k, u, g, hk => by
    refine OkE.stm g (p.ok Wx g.fh g.st g.sl) (u := fun x H1 => tas Wx ps σ H1 fun xs H2 => u (x :: xs) H2) fun d s1 v F1 H1 _ a g1 r1 => ?_
    refine evsO_ok ps (u := fun xs H2 => u (v :: xs) H2) g1 fun ds s2 vs F2 H2 a2 g2 r2 hl => ?_
    exact hk (d :: ds) s2 (v :: vs) F2 H2 (a.trans a2) g2 (reps_cons.mpr ⟨v, vs, rfl, r1.mono a2.ff, r2⟩) (by simp [hl])
/-- raise C(e, ..) -/
def XS.rf {B : Bs} (c : Str) (fns : List Str) (hf : fns ≠ []) (ps : List (XE B)) (hn : ps.length = fns.length) (hz : ps.length ≤ 100) : XS B where
  ts := fun Wx _ σ H => tMkO (B.ca c) (spX (B.ca c) fns) [] (tas Wx ps) σ H fun cls d H' => Wx cls d σ H'
  ev := fun Γ s => evsO Γ ps s fun ds s1 => .exc c (rzD fns ds) Γ s1
  ok := fun {w Z F H σ Γ s} Wx D' g => by
    refine evsO_ok ps (u := fun vs H1 => vs.length ≤ 1000 ∧ ∀ a, H1 a = none → spX (B.ca c) fns (.ref a :: (vs ++ [])) (upd H1 a (exo a (B.ca c) none)) (fun v H2 => v = .non ∧ ∃ (d : Addr) (fs : List (Str × V)), H2 a = some (exo a (B.ca c) (some d)) ∧ H2 d = some (exd d fs) ∧ H1 d = none ∧ Wx (.ref (B.ca c)) (some d) σ (upd (del H2 a) d (.xd fs))) (fun _ _ _ => False)) g fun ds s1 vs F1 H1 a g1 r hl => ?_
    refine fun k => ⟨by rw [r.length]; omega, fun ea hea => ⟨ea, vs, by rw [List.append_nil], by rw [r.length, hl, hn], upd_same, fun d hd hne => ⟨rfl, d, rzV fns vs, upd_same, ?_, ?_, ?_⟩⟩⟩
    · rw [upd_ne hne, upd_same]
    · rw [upd_ne hne] at hd; exact hd
    · have hd1 : H1 d = none := by rw [upd_ne hne] at hd; exact hd
      have e : upd (del (upd (upd (upd H1 ea (exo ea (B.ca c) none)) d (exd d (rzV fns vs))) ea (exo ea (B.ca c) (some d))) ea) d (.xd (rzV fns vs)) = upd H1 d (.xd (rzV fns vs)) := by
        funext b
        by_cases hb : b = d
        · subst hb; rw [upd_same, upd_same]
        · rw [upd_ne hb, upd_ne hb]
          by_cases hb2 : b = ea
          · subst hb2; rw [del_same]; exact hea.symm
          · rw [del_ne hb2, upd_ne hb2, upd_ne hb, upd_ne hb2]
      rw [e]
      have stp : Step w F1 H1 (upd F1 d (.xd (rzV fns vs))) (upd H1 d (.xd (rzV fns vs))) := Step.new g1.fh hd1
      have g2 := g1.step stp (g1.st.new hd1)
      refine k (some d) _ _ σ stp.ff g2 ?_
      have rf := (repF_zip (fns := fns) r).mono stp.ff
      cases hrz : rzD fns ds with
      | nil =>
        exfalso
        have hl2 : (rzD fns ds).length = fns.length := by
          unfold rzD
          rw [List.length_reverse, List.length_zip, hl, hn, Nat.min_self]
        rw [hrz] at hl2
        exact hf (List.eq_nil_of_length_eq_zero hl2.symm)
      | cons f fs =>
        rw [hrz] at rf
        exact ⟨d, _, rfl, upd_same, rf⟩

/-! ### try -/
/-- try: body / except C as e: return e.f -/
def XS.tryF {B : Bs} (c f : Str) (i : Nat) (b : XS B) (hx : PySem.W.exmOne B.K (.ref (B.ca c)) (.ref (B.ca c)) = some true) : XS B where
  ts := fun Wx D σ H => b.ts (wAs B.K (.ref (B.ca c)) i (fun a cls d => tRet (tXf a cls d (B.ca c) f (tVar i))) Wx D) D σ H
  ev := fun Γ s => match b.ev Γ s with
    | .exc c' fs Γ' s' => if c' = c ∧ i < Γ'.length then (match fs.lookup f with
      | some d => .ret d s'
      | none => .stuck) else .stuck
    | o => o
  ok := fun {w Z F H σ Γ s} Wx D' g => by
    have h := b.ok (wAs B.K (.ref (B.ca c)) i (fun a cls d => tRet (tXf a cls d (B.ca c) f (tVar i))) Wx D') D' g
    cases ho : b.ev Γ s with
    | exc c' fs Γ' s' =>
      rw [ho] at h
      show OkS B w Z F Wx D' _ (if c' = c ∧ i < Γ'.length then (match fs.lookup f with
        | some d => .ret d s'
        | none => .stuck) else .stuck)
      by_cases hc : c' = c ∧ i < Γ'.length
      · rw [if_pos hc]
        obtain ⟨rfl, hi⟩ := hc
        cases hl : fs.lookup f with
        | none => trivial
        | some d =>
          refine fun k => h fun od F' H' σ' e' g' x => ⟨true, hx, fun _ a ha => ?_, fun z => nomatch z⟩
          cases fs with
          | nil => cases hl
          | cons f0 fs =>
            obtain ⟨dd, xs, rfl, h1, h2⟩ := x
            obtain ⟨v, e1, rv⟩ := repF_lookup h2 hl
            exact ⟨.ref a, by rw [List.getElem?_set_self (by rw [g'.ln]; exact hi)], rfl, rfl, dd, xs, v, rfl, g'.fh _ _ h1, e1, k v F' H' e' g'.gone rv⟩
      · rw [if_neg hc]; trivial
    | stuck => trivial
    | nxt _ _ => rw [ho] at h; exact h
    | brk _ _ => rw [ho] at h; exact h
    | cnt _ _ => rw [ho] at h; exact h
    | ret _ _ => rw [ho] at h; exact h
/-- try: body / except C: suite -/
def XS.try {B : Bs} (c : Str) (b p : XS B) (hx : PySem.W.exmOne B.K (.ref (B.ca c)) (.ref (B.ca c)) = some true) : XS B where
  ts := fun Wx D σ H => b.ts (wOnly B.K (.ref (B.ca c)) (fun _ _ _ => p.ts W0) Wx D) D σ H
  ev := fun Γ s => match b.ev Γ s with
    | .exc c' fs Γ' s' => if c' = c then (match p.ev Γ' s' with
      | .exc _ _ _ _ => .stuck
      | o => o) else .stuck
    | o => o
  ok := fun {w Z F H σ Γ s} Wx D' g => by
    have h := b.ok (wOnly B.K (.ref (B.ca c)) (fun _ _ _ => p.ts W0) Wx D') D' g
    cases ho : b.ev Γ s with
    | exc c' fs Γ' s' =>
      rw [ho] at h
      show OkS B w Z F Wx D' _ (if c' = c then (match p.ev Γ' s' with
        | .exc _ _ _ _ => .stuck
        | o => o) else .stuck)
      by_cases hc : c' = c
      · rw [if_pos hc]
        subst hc
        have hp := fun F' H' σ' (e' : Ex F F') (g' : Good B w Z F' H' σ' Γ' s') => (p.ok W0 D' g').back e'
        have go : ∀ {t : Prop}, ((∀ F' H' σ', Ex F F' → Good B w Z F' H' σ' Γ' s' → p.ts W0 D' σ' H') → t) → (b.ts (wOnly B.K (.ref (B.ca c')) (fun _ _ _ => p.ts W0) Wx D') D' σ H → t) → True := fun _ _ => trivial
        have run : (∀ F' H' σ', Ex F F' → Good B w Z F' H' σ' Γ' s' → p.ts W0 D' σ' H') → b.ts (wOnly B.K (.ref (B.ca c')) (fun _ _ _ => p.ts W0) Wx D') D' σ H := fun q =>
          h fun od F' H' σ' e' g' x => ⟨true, hx, fun _ a ha => q F' H' σ' e' g', fun z => nomatch z⟩
        cases hq : p.ev Γ' s' with
        | exc _ _ _ _ => trivial
        | stuck => trivial
        | nxt _ _ => exact fun k => run fun F' H' σ' e' g' => by have z := hp F' H' σ' e' g'; rw [hq] at z; exact z k
        | brk _ _ => exact fun k => run fun F' H' σ' e' g' => by have z := hp F' H' σ' e' g'; rw [hq] at z; exact z k
        | cnt _ _ => exact fun k => run fun F' H' σ' e' g' => by have z := hp F' H' σ' e' g'; rw [hq] at z; exact z k
        | ret _ _ => exact fun k => run fun F' H' σ' e' g' => by have z := hp F' H' σ' e' g'; rw [hq] at z; exact z k
      · rw [if_neg hc]; trivial
    | stuck => trivial
    | nxt _ _ => rw [ho] at h; exact h
    | brk _ _ => rw [ho] at h; exact h
    | cnt _ _ => rw [ho] at h; exact h
    | ret _ _ => rw [ho] at h; exact h
end Dv

set_option Elab.async false
set_option linter.all false
set_option maxRecDepth 100000
/-! # Comparisons that run own defs -/
namespace Dv
open PySem PySem.Spec PyProof.Rows L2 Evl

/-- a comparison by values, at the slots as they stand -/
def OpE (X : Cx) (Wx : WX) (f : Value → Value → Sem Value) (r : V → V → Hp → VK → XK → Prop) : Prop :=
  ∀ (pins : List (Addr × Obj)) (s : Shared) (σ : L2.St) (H : Hp) (x y : V) (v u : Value) (Q : VK), Inv X pins σ H s → L2.RelV x v → L2.RelV y u → r x y H Q (WE Wx σ) → wpAny (model X.prog X.w) X.A (f v u) (EP X pins σ Q) X.xe s
theorem pe_cmpE {X : Cx} {Wx : WX} {op : CmpOp} {r : V → V → Hp → VK → XK → Prop} {a b : Expr} {ta tb : TE} {pos : Pos} (ho : OpE X Wx (compareOp op) r) (ha : PE X a ta) (hb : PE X b tb)
    (hm : behindInMarks op b = false := by with_unfolding_all rfl) : PE X (.Compare a [op] [b] pos) (fun σ H Q => ta σ H fun x H1 => tb σ H1 fun y H2 => r x y H2 Q (WE Wx σ)) := by
  refine ⟨fun pins s σ H Q I h => ?_⟩
  exact wpAny_Compare1 (binT ha hb I h fun v u s2 x y H2 I2 rx ry q => ho pins s2 σ H2 x y v u Q I2 rx ry q) hm
theorem pt_cmpE {X : Cx} {Wx : WX} {op : CmpOp} {r : V → V → Hp → VK → XK → Prop} {a b : Expr} {ta tb : TE} {pos : Pos} (ho : OpE X Wx (compareOp op) r) (ha : PE X a ta) (hb : PE X b tb)
    (hm : behindInMarks op b = false := by with_unfolding_all rfl) : PT X (.Compare a [op] [b] pos) (tB (fun σ H Q => ta σ H fun x H1 => tb σ H1 fun y H2 => r x y H2 Q (WE Wx σ))) := by
  refine ⟨fun pins s σ H Q I h => ?_⟩
  refine wpAny_isTrue_Compare1 (thn (ha.run pins s σ H _ I h) fun v s1 ⟨x, H1, I1, r1, q1⟩ => thn (hb.run pins s1 σ H1 _ I1 q1) fun u s2 ⟨y, H2, I2, r2, q2⟩ =>
    thn (ho pins s2 σ H2 x y v u _ I2 r1 r2 q2) fun c s3 ⟨z, H3, I3, r3, k, e, q3⟩ => ?_) hm
  subst e
  cases r3
  exact wpAny_truthy_bool ⟨H3, I3, q3⟩

/-! ### x in y -/
theorem op_inU {B : Bs} {X : Cx} {hs : Hd} {k : Nat} {neg : Bool} {op : CmpOp} {Wx : WX} (hop : op = if neg then .NotIn else .In) (hK : B.K = X.K) (tk : Takes X Wx) (hr : Room k X.A) (hM : ∀ c g, hs.at c = some g → OwnM B X k "__contains__" 2 c g) :
    OpE X Wx (compareOp op) (inR B neg hs) := by
  intro pins s2 σ H2 x y v u Q I2 rx ry q
  have hu : X.A.units + 1 < cLine := by have := hr.units; omega
  rcases q with q | ⟨p, kvs, z, rfl, h1, rfl, q⟩ | ⟨c, g, p, dx, fs, hg, rfl, hp2, q⟩
  · have q' : rIn X.K neg x y H2 Q := by rw [← hK]; exact q
    cases neg with
    | false => subst hop; exact op_in_seq pins s2 σ H2 x y v u Q I2 rx ry q'
    | true => subst hop; exact op_notIn_seq pins s2 σ H2 x y v u Q I2 rx ry q'
  · cases (show u = Value.ref p from ry)
    have g : DGet H2 p (.str z) (valV kvs (.inr z)) := DGet.k (k := Sum.inr z) h1
    cases neg with
    | false => subst hop; exact d_in hu I2 g rx fun s3 I3 => ⟨.bl _, H2, I3, rfl, q⟩
    | true => subst hop; exact d_notIn hu I2 g rx fun s3 I3 => ⟨.bl _, H2, I3, rfl, q⟩
  · obtain ⟨f, fd, ps, h1, h2, h3, _, _, h4, _, h5⟩ := (hM c g hg).ex
    cases (show u = Value.ref p from ry)
    obtain ⟨ox, od, J⟩ := inst_of I2 hp2
    obtain ⟨m, fr⟩ := I2.fr
    have run := run_any (us := [.ref p, v]) h5 hr I2.env0 h4 (passAt tk σ) I2 (.cons (show L2.RelV (.ref p) (.ref p) from rfl) (.cons rx .nil)) q
    cases neg with
    | false =>
      subst hop
      refine PySem.W.in_K fr I2.ok.mod.kin J h1 h2 (wpAny_mono run (fun r s3 z => ?_) fun _ _ z => z)
      obtain ⟨w', H3, I3, rw', b, rfl, q3⟩ := z
      cases (show r = Value.bool b from rw')
      exact wpAny_truthy_bool ⟨.bl b, H3, I3, rfl, q3⟩
    | true =>
      subst hop
      refine PySem.W.notIn_K fr I2.ok.mod.kin J h1 h2 (wpAny_mono run (fun r s3 z => ?_) fun _ _ z => z)
      obtain ⟨w', H3, I3, rw', b, rfl, q3⟩ := z
      cases (show r = Value.bool b from rw')
      exact wpAny_truthy_bool ⟨.bl (!b), H3, I3, rfl, q3⟩

/-! ### x == y, x != y -/
section
variable {prog : Program} {w : World} {A : Around} {E : Value → Shared → Prop} {s : Shared} {K : PySem.W.Frag} {x C L f : Addr} {h₀ : Heap} {m : Str → Option Value} {ox : Obj} {od : Option Obj}
theorem ifBound_bi {M : Model} {name : Str} {id : String} {args : List Value} {Q : Option Value → Shared → Prop} (X : K.In s.heap) (I : PySem.W.InstAt s.heap x ox C od) (hs : PySem.W.findIn K (.ref C) name = some (some (.builtin id)))
    (hb : bindSpecial (.builtin id) (.ref x) = pure (.builtin id, [.ref x])) (h : wpAny M A (call (.builtin id) (.ref x :: args)) (fun v => Q (some v)) E s) : wpAny M A (callSpecialIfBound? (.ref x) name args) Q E s := by
  simp only [callSpecialIfBound?, bindSpecialIfBound?]
  refine wpAny_holding (wpAny_bind (wpAny_bind (wpAny_bind (I.type.here ((PySem.W.looks_findIn X hs).here ?_)))))
  simp only [hb]
  refine wpAny_bind (wpAny_askSetting (wpAny_ite ?_))
  have fin : wpAny M A (call (.builtin id) ([.ref x] ++ args) >>= fun v => pure (some v)) Q E s := wpAny_bind (wpAny_mono h (fun v s' h' => wpAny_pure h') fun _ _ h' => h')
  split
  · exact wpAny_bind (wpAny_pure (wpAny_pure fin))
  · exact wpAny_tryCatch (wpAny_bind (wpAny_pure (wpAny_pure fin)))
/-- object's own answer to !=: not what == answers -/
theorem ne_entry {b : Value} {Q : Fin → Shared → Prop} (hu : A.units < cLine) (X : K.In s.heap) (I : PySem.W.InstAt s.heap x ox C od) (he : PySem.W.findIn K (.ref C) "__eq__" = some (some (.ref f))) (hf : PySem.W.isFn K (.ref f) = true)
    (h : wpAny (model prog w) A (call (.ref f) [.ref x, b]) (fun v s' => ∃ t, v = .bool t ∧ Q (.done (.ret (.bool (!t)))) s') E s) : wpAny (model prog w) A (Builtin.«object.__ne__» ⟨[.ref x, b], []⟩) Q E s := by
  obtain ⟨hh, gg, dd, tt, os⟩ := s
  unfold Builtin.«object.__ne__»
  repeat (first
    | with_reducible refine wpAny_cRoomFor hu ?_
    | (refine wpAny_bind (m := callSpecialIfBound? (.ref x) (Str.ofString "__eq__") [b])
        (PySem.W.ifBound_K X I he hf (wpAny_mono h (fun r s' hr => by
          obtain ⟨t, rfl, hq⟩ := hr
          repeat (first | exact hq | exact wpAny_pure hq | exact wpAny_truthy_bool hq | (refine wpAny_bind (m := truthy (.bool _)) (wpAny_truthy_bool ?_)) | wp_step)) fun _ _ e => e)))
    | wp_step)
theorem one_ne {b : Value} {Q : Value → Shared → Prop} (hu : A.in1.units < cLine) (X : K.In s.heap) (I : PySem.W.InstAt s.heap x ox C od)
    (hs : PySem.W.findIn K (.ref C) "__ne__" = some (some (.builtin "object.__ne__"))) (he : PySem.W.findIn K (.ref C) "__eq__" = some (some (.ref f))) (hf : PySem.W.isFn K (.ref f) = true) (ho : PySem.W.mroIn K C (.type "object") = some true)
    (h : wpAny (model prog w) A.in1 (call (.ref f) [.ref x, b]) (fun v s' => ∃ t, v = .bool t ∧ Q (.bool (!t)) s') E s) : wpAny (model prog w) A (tryCompare (.ref x) "__ne__" b) (fun r s' => ∃ v, r = some v ∧ Q v s') E s := by
  simp only [tryCompare]
  refine wpAny_bind (ifBound_bi X I hs (F.cmp_object.ne.bind _) (wpAny_call (codeAny_call_builtin F.cmp_object.ne.plain F.cmpEntry_ne
    (PySem.W.check_slot F.cmpKind_ne F.cmpSplit_ne (I.type.andThen (PySem.W.looks_mroIn X ho)) (F.cmpArgs_ne _ _) (ne_entry (A := A.in1) hu X I he hf (wpAny_mono h (fun v s' hv => ?_) fun _ _ e => e))))))
  obtain ⟨t, rfl, hq⟩ := hv
  first | exact ⟨t, rfl, wpAny_pure ⟨_, rfl, hq⟩⟩ | exact ⟨t, rfl, wpAny_pure (wpAny_pure ⟨_, rfl, hq⟩)⟩ | exact ⟨t, rfl, ⟨_, rfl, hq⟩⟩
theorem cmp_ne {b tb : Value} {Q : Value → Shared → Prop} (hu : A.units + 1 < cLine) (F : Fr h₀ L s.heap m) (X₀ : K.In h₀) (I : PySem.W.InstAt s.heap x ox C od) (hb : PySem.W.Looks (model prog w) s.heap (typeOf b) tb) (hn : PySem.W.notFirst K C tb = true)
    (hs : PySem.W.findIn K (.ref C) "__ne__" = some (some (.builtin "object.__ne__"))) (he : PySem.W.findIn K (.ref C) "__eq__" = some (some (.ref f))) (hf : PySem.W.isFn K (.ref f) = true) (ho : PySem.W.mroIn K C (.type "object") = some true)
    (h : wpAny (model prog w) A.in1 (call (.ref f) [.ref x, b]) (fun v s' => ∃ t, v = .bool t ∧ Q (.bool (!t)) s') E s) : wpAny (model prog w) A (richCompare .NotEq (.ref x) b) Q E s := by
  have X := X₀.keeps F.keep
  have one := one_ne (Q := Q) hu X I hs he hf ho h
  unfold richCompare
  simp only [oneThing_ref]
  refine wpAny_holding (wpAny_bind (wpAny_cRoomFor (Nat.lt_of_succ_lt hu) ?_))
  rw [cmpInfo_NotEq]
  refine wpAny_bind (I.type.here (wpAny_bind (hb.here ?_)))
  split
  · rename_i q
    have e : PySem.W.subIn K tb (.ref C) = some false := by
      rcases Bool.or_eq_true_iff.mp hn with e | e
      · rw [beq_iff_eq.mp e] at q; simp at q
      · exact beq_iff_eq.mp e
    refine wpAny_bind ((PySem.W.looks_subIn X e).here ?_)
    simp only [Bool.false_eq_true, if_false]
    refine wpAny_bind (wpAny_mono one (fun r s' z => ?_) fun _ _ e => e)
    obtain ⟨v, rfl, hq⟩ := z
    exact wpAny_pure hq
  · refine wpAny_bind (wpAny_pure ?_)
    simp only [Bool.false_eq_true, if_false]
    refine wpAny_bind (wpAny_mono one (fun r s' z => ?_) fun _ _ e => e)
    obtain ⟨v, rfl, hq⟩ := z
    exact wpAny_pure hq
end

/-- both of one own class, by its own equality; else by the data -/
def eqR (B : Bs) (neg : Bool) (hs : Hd) (x y : V) (H : Hp) (Q : VK) (E : XK) : Prop :=
  (if neg then (o_neD B).r x y H Q else (o_eqD B).r x y H Q) ∨ ∃ c g p q dx fs dx' fs', hs.at c = some g ∧ x = .ref p ∧ y = .ref q ∧ H p = some (.ins (B.ca c) dx fs) ∧ H q = some (.ins (B.ca c) dx' fs') ∧
    spD B 2 g [x, y] H (fun v H' => ∃ b, v = .bl b ∧ Q (.bl (if neg then !b else b)) H') E
def eqE (neg : Bool) (hs : Hd) (d e : D) (s : HS) : Res := match d with
  | .ins c fs => match e with
    | .ins c' fs' => if c = c' then match hs.at c with
        | some g => (g [.ins c fs, .ins c' fs'] s).bindB fun b s1 => .ret (.bl (if neg then !b else b)) s1
        | none => .stuck
      else .stuck
    | _ => .stuck
  | d => Res.opt (eqF neg d e) s
def XE.eq {B : Bs} (neg : Bool) (hs : Hd) (a b : XE B) : XE B where
  te := fun Wx σ H Q => a.te Wx σ H fun x H1 => b.te Wx σ H1 fun y H2 => eqR B neg hs x y H2 Q (WE Wx σ)
  ev := fun Γ s => (a.ev Γ s).bind fun d s1 => (b.ev Γ s1).bind fun e s2 => eqE neg hs d e s2
  ok := fun {w F H σ Γ s} Wx e st sl => by
    refine (a.ok Wx e st sl).seq (u := fun x H1 Q => b.te Wx σ H1 fun y H2 => eqR B neg hs x y H2 Q (WE Wx σ)) fun d s1 v F1 H1 _ a1 st1 r1 => ?_
    refine (b.ok Wx a1.fh st1 (sl.step a1)).seq (u := fun y H2 Q => eqR B neg hs v y H2 Q (WE Wx σ)) fun d2 s2 v2 F2 H2 _ a2 st2 r2 => ?_
    have r1' := r1.mono a2.ff
    have plain : OkE B w F2 H2 σ Wx (fun Q => eqR B neg hs v v2 H2 Q (WE Wx σ)) (Res.opt (eqF neg d d2) s2) := by
      cases neg with
      | true => exact OkP.imp (((o_neD B).ok a2.fh r1' r2).toE st2) fun Q q => .inl q
      | false => exact OkP.imp (((o_eqD B).ok a2.fh r1' r2).toE st2) fun Q q => .inl q
    cases d with
    | ins c fs =>
      cases d2 with
      | ins c' fs' =>
        show OkE B w F2 H2 σ Wx _ (if c = c' then match hs.at c with
            | some g => (g [.ins c fs, .ins c' fs'] s2).bindB fun b s1 => .ret (.bl (if neg then !b else b)) s1
            | none => .stuck
          else .stuck)
        by_cases hc : c = c'
        · subst hc
          rw [if_pos rfl]
          cases hg : hs.at c with
          | none => trivial
          | some g =>
            obtain ⟨p, dx, xs, rfl, h1, h2⟩ := rep_ins.mp r1'
            obtain ⟨q, dy, ys, rfl, h3, h4⟩ := rep_ins.mp r2
            have h := spD_use (σ := σ) (Wx := Wx) (g := g) (n := 2) (ds := [.ins c fs, .ins c fs']) (vs := [.ref p, .ref q]) rfl a2.fh st2 (reps_cons.mpr ⟨_, _, rfl, r1', reps_cons.mpr ⟨_, _, rfl, r2, reps_nil.mpr rfl⟩⟩)
            show OkE B w F2 H2 σ Wx _ ((g [.ins c fs, .ins c fs'] s2).bindB fun b s1 => .ret (.bl (if neg then !b else b)) s1)
            cases hr : g [.ins c fs, .ins c fs'] s2 with
            | stuck => trivial
            | exc c1 f1 s3 => rw [hr] at h; exact fun hx Q => .inr ⟨c, g, p, q, dx, xs, dy, ys, hg, rfl, rfl, a2.fh _ _ h1, a2.fh _ _ h3, h hx _⟩
            | ret z s3 =>
              rw [hr] at h
              cases z with
              | bl b => exact fun Q k => .inr ⟨c, g, p, q, dx, xs, dy, ys, hg, rfl, rfl, a2.fh _ _ h1, a2.fh _ _ h3, h _ fun v' F' H' a' b' c' => ⟨b, rep_bl.mp c', k _ F' H' a' b' (rep_bl.mpr rfl)⟩⟩
              | _ => trivial
        · rw [if_neg hc]; trivial
      | _ => trivial
    | _ => exact plain
/-- what the top has made of a class's equality; != by object's own one -/
structure OwnEq (B : Bs) (X : Cx) (k : Nat) (neg : Bool) (c : Str) (g : Gf) : Prop extends OwnM B X k "__eq__" 2 c g where
  ne : neg = true → PySem.W.findIn X.K (.ref (B.ca c)) "__ne__" = some (some (.builtin "object.__ne__")) ∧ PySem.W.mroIn X.K (B.ca c) (.type "object") = some true
theorem op_eqU {B : Bs} {X : Cx} {hs : Hd} {k : Nat} {neg : Bool} {op : CmpOp} {Wx : WX} (hop : op = if neg then .NotEq else .Eq) (hK : B.K = X.K) (tk : Takes X Wx) (hr : Room (k + 1) X.A) (hM : ∀ c g, hs.at c = some g → OwnEq B X k neg c g) :
    OpE X Wx (compareOp op) (eqR B neg hs) := by
  intro pins s σ H x y v u Q I rx ry q
  have hu : X.A.units + 1 < cLine := by have := hr.units; omega
  rcases q with q | ⟨c, g, p, q1, dx, fs, dy, fs', hg, rfl, rfl, hp, hq, q⟩
  · cases neg with
    | false =>
      subst hop
      have q' : rEqD X.K x y H Q := by rw [← hK]; exact q
      exact op_eqD hr.units pins s σ H x y v u Q I rx ry q'
    | true =>
      subst hop
      have q' : rNeD X.K x y H Q := by rw [← hK]; exact q
      exact op_neD hr.units pins s σ H x y v u Q I rx ry q'
  · obtain ⟨f, fd, ps, h1, h2, h3, _, _, h4, _, h5⟩ := (hM c g hg).ex
    cases (show v = Value.ref p from rx)
    cases (show u = Value.ref q1 from ry)
    obtain ⟨ox, od, J⟩ := inst_of I hp
    obtain ⟨oy, od', J'⟩ := inst_of I hq
    obtain ⟨m, fr⟩ := I.fr
    have hn : PySem.W.notFirst X.K (B.ca c) (.ref (B.ca c)) = true := by unfold PySem.W.notFirst; simp
    have rv : Vals [V.ref p, V.ref q1] [Value.ref p, Value.ref q1] := .cons (show L2.RelV (.ref p) (.ref p) from rfl) (.cons (show L2.RelV (.ref q1) (.ref q1) from rfl) .nil)
    cases neg with
    | false =>
      subst hop
      show wpAny _ _ (compareOp .Eq _ _) _ _ _
      unfold compareOp
      have run := run_any (us := [.ref p, .ref q1]) h5 (hr.mono (Nat.le_succ k)) I.env0 h4 (passAt tk σ) I rv q
      refine PySem.W.cmp_K (Nat.lt_of_succ_lt hu) fr I.ok.mod.kin J J'.type hn h1 h2 (wpAny_mono run (fun r s3 z => ?_) fun _ _ z => z)
      obtain ⟨w', H3, I3, rw', b, rfl, q3⟩ := z
      cases (show r = Value.bool b from rw')
      exact ⟨.bl b, H3, I3, rfl, q3⟩
    | true =>
      subst hop
      show wpAny _ _ (compareOp .NotEq _ _) _ _ _
      unfold compareOp
      obtain ⟨n1, n2⟩ := (hM c g hg).ne rfl
      have run := run_any (us := [.ref p, .ref q1]) h5 hr.in1 I.env0.in1 h4 (passAt tk σ) I rv q
      refine cmp_ne hu fr I.ok.mod.kin J J'.type hn n1 h1 h2 n2 (wpAny_mono run (fun r s3 z => ?_) fun _ _ z => z)
      obtain ⟨w', H3, I3, rw', b, rfl, q3⟩ := z
      cases (show r = Value.bool b from rw')
      exact ⟨b, rfl, .bl (!b), H3, I3, rfl, q3⟩
end Dv

set_option Elab.async false
set_option linter.all false
set_option maxRecDepth 100000
/-! # enumerate over a tuple -/
namespace Dv
open PySem PySem.Spec PyProof.Rows L2 Evl

set_option maxHeartbeats 1000000 in
theorem meets_en1 {v0 : Value} {ob : Obj} {HH : Heap → Prop} (Bg : Begins v0 ob HH) :
    Meets (Builtin.«enumerate.__new__» ⟨[.type "enumerate", v0], []⟩) (fun _ R st => HH st.heap ∧
      R (.ok (.ret (.ref (st.heap.push ob).objs.size))) { st with heap := (st.heap.push ob).push { cls := .type "enumerate", data := .fields #[.none, .bool false, .ref st.heap.objs.size, rawInt 0, .none, .none] } }) :=
  .of_wp fun prog w A R st hst => by
    obtain ⟨hp0, gg, dd, tk0, os0⟩ := st
    obtain ⟨hh1, hst⟩ := hst
    have hsub := sub_enumerate
    have qi : ∀ {A1 : Around} {E1 : Value → Shared → Prop} {Q1 : Value → Shared → Prop}, Q1 (.ref hp0.objs.size) ⟨hp0.push ob, gg, dd, tk0, os0⟩ → wpAny (model prog w) A1 (pyIter v0) Q1 E1 ⟨hp0, gg, dd, tk0, os0⟩ :=
      fun qq => Bg.iter prog w _ _ ⟨hp0, gg, dd, tk0, os0⟩ _ hh1 qq
    wp_walk using qi
    refine wpAny_stack_any fun stk0 => wpAny_pure ?_
    split
    · rename_i c0 _ _ _ _ _
      cases (c0 == Value.type "enumerate")
      · wp_walk using qi
        exact ⟨_, rfl, hst⟩
      · wp_walk using qi
        exact ⟨_, rfl, hst⟩
    · wp_walk using qi
      exact ⟨_, rfl, hst⟩
section
variable {prog : Program} {w : World} {A : Around} {E : Value → Shared → Prop} {s : Shared}
theorem en1_begins {v0 : Value} {ob : Obj} {HH : Heap → Prop} {Q : Value → Shared → Prop} (Bg : Begins v0 ob HH) (h1 : HH s.heap)
    (hq : ∀ h', IsEnum h' (s.heap.objs.size + 1) s.heap.objs.size 0 .none → h'.get? s.heap.objs.size = some ob → (∀ b o, s.heap.get? b = some o → h'.get? b = some o) → Q (.ref (s.heap.objs.size + 1)) { s with heap := h' }) :
    wpAny (model prog w) A (call (.type "enumerate") [v0]) Q E s := by
  refine callType_new F.called_enumerate (by decide) (F.typeCall_enumerate_1 v0) (F.newCall_enumerate_1 v0) (fun obj => F.args_object_init_2 obj v0) F.entry_enumerate_new (meets_en1 Bg) ⟨h1, ?_⟩
  have hz : (s.heap.push ob).objs.size = s.heap.objs.size + 1 := Heap.size_push ..
  show _ ∧ _
  rw [hz]
  have he : IsEnum ((s.heap.push ob).push { cls := .type "enumerate", data := .fields #[.none, .bool false, .ref s.heap.objs.size, rawInt 0, .none, .none] }) (s.heap.objs.size + 1) s.heap.objs.size 0 .none := by
    have hx := Heap.get?_push_size (s.heap.push ob) (o := { cls := .type "enumerate", data := .fields #[.none, .bool false, .ref s.heap.objs.size, rawInt 0, .none, .none] }) rfl
    rw [hz] at hx
    exact hx
  exact ⟨⟨_, he, rfl⟩, hq _ he (Heap.get?_push_of_some _ (Heap.get?_push_size _ Bg.free)) fun b o x => Heap.get?_push_of_some _ (Heap.get?_push_of_some _ x)⟩
end
/-- the tuple at a, each item in a new pair with its place -/
def ItEn (K : PySem.W.Frag) (a : Addr) : It :=
  ⟨fun i H => ∃ (xs : List V) (x : V), SqT K H a xs ∧ xs[i]? = some x, fun i H v H' => ∃ T x, v = .ref T ∧ H T = none ∧ H' = upd H T (.tup [.int (i : Nat), x]) ∧ ∀ xs, SqT K H a xs → xs[i]? = some x, fun i H => ∃ xs : List V, SqT K H a xs ∧ xs.length = i⟩
theorem turn_en {P : Program} {w : World} {K : PySem.W.Frag} {elts : List Expr} {kk : Nat} {tpos : Pos} (a e it : Addr) (hne : e ≠ it) (hae : a ≠ e) (hai : a ≠ it) :
    Turn P w K (.Tuple elts kk tpos) (ItEn K a) [e, it] e (fun i h => (∃ old, IsEnum h e it ((i : Nat) : Int) old) ∧ h.IsTupleIter it a i) where
  mem := by simp
  obj := fun i h st b hb => by
    obtain ⟨⟨old, he⟩, ⟨o, ho, hc, hd⟩⟩ := st
    have hcs : b = e ∨ b = it := by simpa using hb
    rcases hcs with z | z
    · rw [z]; exact ⟨_, he, fun v q => nomatch q⟩
    · rw [z]; exact ⟨o, ho, fun v q => by rw [hd] at q; cases q⟩
  keep := fun i h h' st k => ⟨⟨st.1.choose, k e (by simp) _ st.1.choose_spec⟩, st.2.at fun o q => k it (by simp) o q⟩
  item := by
    intro X hP hw hK hc i pins s σ H E I hf st hg
    subst hP hw hK
    obtain ⟨⟨old, he⟩, hit⟩ := st
    obtain ⟨xs, x, hq, hx⟩ := hg
    obtain ⟨its, rv, p, hz⟩ := I.tuple hq
    obtain ⟨u, hu, ru⟩ := rv.get hx
    have hel : e < s.heap.objs.size := Heap.lt_size he
    have hil : it < s.heap.objs.size := by obtain ⟨_, q, _⟩ := hit; exact Heap.lt_size q
    have hcalm : X.A.in1.handled = none := I.ok.hd hc
    have hlt : i < its.toArray.size := by
      obtain ⟨hh, _⟩ := List.getElem?_eq_some_iff.mp hu
      simpa using hh
    refine wpAny_pyNext_enum_itemC (Draws.tuple hcalm it a hai its.toArray) he ⟨hit, p⟩ hlt hne (by simp [hne, hae.symm]) fun y h' tk hy ho hs' hT hsz hk => ?_
    have hyu : y = u := by
      have h3 : its.toArray[i]? = some u := by simpa using hu
      rw [h3] at hy
      exact (Option.some.inj hy).symm
    subst hyu
    refine ⟨_, rfl, wpAny_letOwnedTupleGo_enum (s := { s with heap := h', toks := tk + 1 }) ho fun h2 he2 sb => ?_⟩
    have hT2 : h2.get? s.heap.objs.size = some { cls := .type "tuple", data := .seq #[.int i tk, y] } := (sb.2 _ (Nat.ne_of_gt hel)).trans hT
    have new : ObjOk X.prog X.w (upd H s.heap.objs.size (.tup [.int (i : Nat), x])) h2 s.heap.objs.size (.tup [.int (i : Nat), x]) :=
      ⟨by show 2 ≤ sizeLine; decide, [.int i tk, y], .cons ⟨_, rfl⟩ (.cons ru .nil), ⟨_, hT2, rfl, _, rfl⟩⟩
    have I1 : Inv X pins σ (upd H s.heap.objs.size (.tup [.int (i : Nat), x])) { s with heap := h2, toks := tk + 1 } :=
      I.turnedNew (ch := [e, it]) (fun b ob hb q => (sb.2 b (fun z => hb (by simp [z]))).trans (hk b ob (fun z => hb (by simp [z])) (fun z => hb (by simp [z])) q)) hf (Nat.le_refl _) new
    refine ⟨.ref s.heap.objs.size, _, I1, rfl, ⟨_, x, rfl, I.hok.fresh (Nat.le_refl _), rfl, fun ys hy2 => by rw [I.tuple_inj hy2 hq]; exact hx⟩, ⟨⟨y, ?_⟩, hs'.1.at fun o q => (sb.2 it (Ne.symm hne)).trans q⟩, fun b hb => ?_⟩
    · have e1 : ((i + 1 : Nat) : Int) = (i : Int) + 1 := by omega
      rw [e1]; exact he2
    · have hb2 : b < s.heap.objs.size := by
        have hcs : b = e ∨ b = it := by simpa using hb
        rcases hcs with z | z
        · rw [z]; exact hel
        · rw [z]; exact hil
      rw [upd_ne (Nat.ne_of_lt hb2)]
      exact (hf b hb).1
  done := by
    intro X hP hw hK hc i pins s σ H E I hf st hg
    subst hP hw hK
    obtain ⟨⟨old, he⟩, hit⟩ := st
    obtain ⟨xs, hq, hx⟩ := hg
    obtain ⟨its, rv, p, hz⟩ := I.tuple hq
    obtain ⟨f0, f1, f2, f3, f4, f5⟩ := hf it (by simp)
    have hcalm : X.A.in1.handled = none := I.ok.hd hc
    have hl := rv.length
    have hn : its.toArray.size = i := by simp; omega
    have hst : (s.heap.IsTupleIter it a its.toArray.size ∧ s.heap.IsTuple a its.toArray) := ⟨by rw [hn]; exact hit, p⟩
    exact wpAny_pyNext_enum_endD (Draws.tuple hcalm it a hai its.toArray) he hst fun h' eb => ⟨rfl, I.turned (t' := s.toks) (fun b o hb q => eb b o hb q) f0 f1 f3 f4 f5⟩
  self := fun A i s Q E st h => let ⟨⟨_, he⟩, _⟩ := st; wpAny_pyIter_enum he h
def iEnT (K : PySem.W.Frag) (ta : TA) : TI := fun σ H R => ta σ H fun vs H1 => ∃ a xs, vs = [.ref a] ∧ SqT K H1 a xs ∧ R (ItEn K a) H1
theorem pi_en {X : Cx} {e : Expr} {ta : TA} {p pos tpos : Pos} {elts : List Expr} {kk : Nat} (hg : Gl X "enumerate") (hm : X.mg "enumerate" = none) (ha : PA X [e] ta) (hs : starEach [e] X.env = [(false, eval e X.env)] := by rfl) :
    PI X (.Tuple elts kk tpos) (.Call (.Name "enumerate" p) [e] [] pos) (iEnT X.K ta) := by
  refine ⟨fun pins s σ H R I h => ?_⟩
  refine Call_ (ld_blt I hg hm boot_enumerate (PyProof.Rows.callWith_type1 (thn (ha.run pos pins s σ H _ I h) fun us s1 ⟨vs, H1, I1, r1, q1⟩ => ?_) hs rfl))
  obtain ⟨a, xs, ex, hq, q⟩ := q1
  subst ex
  cases r1 with
  | cons r rr =>
    cases rr
    cases r
    obtain ⟨its, rv, p', hz⟩ := I1.tuple hq
    have hal : a < s1.heap.objs.size := by obtain ⟨o, ho, _⟩ := p'; exact Heap.lt_size ho
    refine en1_begins (begins_tuple a its.toArray) p' fun h' he hit hk => wpAny_pyIter_enum he ?_
    have I2 : Inv X pins σ H1 { s1 with heap := h' } := I1.kept (t' := s1.toks) hk
    refine ⟨s1.heap.objs.size + 1, [s1.heap.objs.size + 1, s1.heap.objs.size], _, _, H1, rfl, I2, turn_en a (s1.heap.objs.size + 1) s1.heap.objs.size (Nat.succ_ne_self _) (Nat.ne_of_lt (Nat.lt_succ_of_lt hal)) (Nat.ne_of_lt hal), ⟨⟨.none, he⟩, ⟨_, hit, rfl, rfl⟩⟩, fun b hb => ?_, q⟩
    have hcs : b = s1.heap.objs.size + 1 ∨ b = s1.heap.objs.size := by simpa using hb
    have hle : s1.heap.objs.size ≤ b := by
      rcases hcs with z | z
      · rw [z]; exact Nat.le_add_right _ _
      · rw [z]; exact Nat.le_refl _
    exact I1.fpOk hle (I1.hok.fresh hle)
end Dv

set_option Elab.async false
set_option linter.all false
set_option maxRecDepth 100000
/-! # enumerate, zip, slices -/
namespace Dv
open PySem PySem.Spec PyProof.Rows L2 Evl

theorem rep_pair {B : Bs} {w : Wd} {F : Hp} {T : Addr} {x y : V} {d e : D} (hT : F T = none) (r1 : Rep B w F d x) (r2 : Rep B w F e y) : Rep B w (upd F T (.tup [x, y])) (.tup false [d, e]) (.ref T) :=
  rep_tup.mpr ⟨T, [x, y], rfl, st_of upd_same, reps_cons.mpr ⟨x, _, rfl, r1.mono (Ex.new hT), reps_cons.mpr ⟨y, _, rfl, r2.mono (Ex.new hT), reps_nil.mpr rfl⟩⟩⟩
def enuD (ds : List D) : List D := ds.mapIdx fun i d => D.tup false [.int (i : Nat), d]
theorem yl_en {B : Bs} {w : Wd} {F1 : Hp} {a : Addr} {xs : List V} {ds : List D} (hx : SqT B.K F1 a xs) (r : Reps B w F1 ds xs) : Yl B w F1 (ItEn B.K a) (enuD ds) := fun F H e1 e2 => by
  have hq := ex_t (e1.trans e2) hx
  refine ⟨fun i d hd => ?_, xs, hq, by rw [r.length]; simp [enuD]⟩
  unfold enuD at hd
  rw [List.getElem?_mapIdx] at hd
  cases hd0 : ds[i]? with
  | none => rw [hd0] at hd; cases hd
  | some d0 =>
    rw [hd0] at hd
    cases hd
    obtain ⟨v, h1, h2⟩ := r.get hd0
    refine ⟨⟨xs, v, hq, h1⟩, fun x H' y => ?_⟩
    obtain ⟨T, u, rfl, hT, rfl, hu⟩ := y
    have hv := hu xs hq
    rw [h1] at hv
    cases hv
    exact ⟨_, Step.new e2 hT, fun s st => st.new hT, rep_pair (fresh_back e2 hT) (rep_int.mpr rfl) (h2.mono e1)⟩
/-- enumerate(t) -/
def XI.enu {B : Bs} (p : XE B) : XI B where
  ti := fun Wx => iEnT B.K (tas Wx [p])
  ev := fun Γ s => (p.ev Γ s).bind fun d s1 => match (match d with
      | .tup _ ds => some (enuD ds)
      | _ => none) with
    | some ds => .ret (.lst ds) s1
    | none => .stuck
  ok := fun {w F H σ Γ s} Wx e st sl => by
    refine OkI.seq (u := fun x H1 R => ∃ a xs, [x] = [V.ref a] ∧ SqT B.K H1 a xs ∧ R (ItEn B.K a) H1) (p.ok Wx e st sl) fun d ds v F1 H1 h e1 r => ?_
    cases d with
    | tup pl es =>
      cases h
      obtain ⟨q, xs, rfl, h1, h2⟩ := rep_tupE r
      exact ⟨_, yl_en h1 h2, fun R k => ⟨q, xs, rfl, ex_t e1 h1, k⟩⟩
    | _ => cases h

def zipD (ds es : List D) : List D := List.zipWith (fun d e => D.tup false [d, e]) ds es
theorem zipD_get {ds es : List D} {i : Nat} {d : D} (h : (zipD ds es)[i]? = some d) : ∃ d1 d2, ds[i]? = some d1 ∧ es[i]? = some d2 ∧ d = .tup false [d1, d2] := by
  unfold zipD at h
  rw [List.getElem?_zipWith] at h
  cases h1 : ds[i]? with
  | none => rw [h1] at h; cases h
  | some d1 =>
    cases h2 : es[i]? with
    | none => rw [h1, h2] at h; cases h
    | some d2 => rw [h1, h2] at h; cases h; exact ⟨d1, d2, rfl, rfl, rfl⟩
theorem yl_zipT {B : Bs} {w : Wd} {F1 : Hp} {a b : Addr} {xs ys : List V} {ds es : List D} (hx : SqT B.K F1 a xs) (hy : SqT B.K F1 b ys) (r : Reps B w F1 ds xs) (r' : Reps B w F1 es ys) : Yl B w F1 (RZ.ItzT B.K a b) (zipD ds es) := fun F H e1 e2 => by
  have hq := ex_t (e1.trans e2) hx
  have hq' := ex_t (e1.trans e2) hy
  refine ⟨fun i d hd => ?_, xs, ys, hq, hq', ?_⟩
  · obtain ⟨d1, d2, k1, k2, rfl⟩ := zipD_get hd
    obtain ⟨v, h1, h2⟩ := r.get k1
    obtain ⟨v', h1', h2'⟩ := r'.get k2
    refine ⟨⟨xs, ys, v, v', hq, hq', h1, h1'⟩, fun x H' y => ?_⟩
    obtain ⟨T, u, u', rfl, hT, rfl, hu, hu'⟩ := y
    have hv := hu xs hq
    have hv' := hu' ys hq'
    rw [h1] at hv
    rw [h1'] at hv'
    cases hv
    cases hv'
    exact ⟨_, Step.new e2 hT, fun s st => st.new hT, rep_pair (fresh_back e2 hT) (h2.mono e1) (h2'.mono e1)⟩
  · rw [r.length, r'.length]
    simp [zipD]
    omega
theorem yl_zipL {B : Bs} {w : Wd} {F1 : Hp} {a b : Addr} {xs ys : List V} {ds es : List D} (hx : SqL B.K F1 a xs) (hy : SqL B.K F1 b ys) (r : Reps B w F1 ds xs) (r' : Reps B w F1 es ys) : Yl B w F1 (Itz B.K a b) (zipD ds es) := fun F H e1 e2 => by
  have hq := ex_l (e1.trans e2) hx
  have hq' := ex_l (e1.trans e2) hy
  refine ⟨fun i d hd => ?_, xs, ys, hq, hq', ?_⟩
  · obtain ⟨d1, d2, k1, k2, rfl⟩ := zipD_get hd
    obtain ⟨v, h1, h2⟩ := r.get k1
    obtain ⟨v', h1', h2'⟩ := r'.get k2
    refine ⟨⟨xs, ys, v, v', hq, hq', h1, h1'⟩, fun x H' y => ?_⟩
    obtain ⟨T, u, u', rfl, hT, rfl, hu, hu'⟩ := y
    have hv := hu xs hq
    have hv' := hu' ys hq'
    rw [h1] at hv
    rw [h1'] at hv'
    cases hv
    cases hv'
    exact ⟨_, Step.new e2 hT, fun s st => st.new hT, rep_pair (fresh_back e2 hT) (h2.mono e1) (h2'.mono e1)⟩
  · rw [r.length, r'.length]
    simp [zipD]
    omega
def zipE (d e : D) (s : HS) : Res := match d, e with
  | .tup _ ds, .tup _ es => .ret (.lst (zipD ds es)) s
  | .lst ds, .lst es => .ret (.lst (zipD ds es)) s
  | _, _ => .stuck
/-- zip(x, y): two lists or two tuples -/
def XI.zip {B : Bs} (p q : XE B) : XI B where
  ti := fun Wx => RZ.iZipA B.K (tas Wx [p, q])
  ev := fun Γ s => (p.ev Γ s).bind fun d s1 => (q.ev Γ s1).bind fun e s2 => zipE d e s2
  ok := fun {w F H σ Γ s} Wx e st sl => by
    have h := p.ok Wx e st sl
    cases hr : p.ev Γ s with
    | stuck => trivial
    | exc c fs s' => rw [hr] at h; exact fun hx R => h hx _
    | ret d s1 =>
      rw [hr] at h
      show OkI B w F H σ Wx _ ((q.ev Γ s1).bind fun e s2 => zipE d e s2)
      have hq := fun {F1 H1 : Hp} (a1 : Step w F H F1 H1) (st1 : StAt w s1 F1 H1) => q.ok (σ := σ) (Γ := Γ) Wx a1.fh st1 (sl.step a1)
      cases hr2 : q.ev Γ s1 with
      | stuck => trivial
      | exc c fs s' =>
        exact fun hx R => h _ fun v F1 H1 a1 st1 _ => by
          have z := hq a1 st1
          rw [hr2] at z
          exact z (fun od F' H' a b c => hx od F' H' (a1.trans a) b c) _
      | ret e2 s2 =>
        show OkI B w F H σ Wx _ (zipE d e2 s2)
        cases d with
        | tup pl ds =>
          cases e2 with
          | tup pl es =>
            refine fun R k => h _ fun v F1 H1 a1 st1 rd => ?_
            have z := hq a1 st1
            rw [hr2] at z
            refine z _ fun v2 F2 H2 a2 st2 re => ?_
            obtain ⟨a, xs, rfl, h1, h2⟩ := rep_tupE (rd.mono a2.ff)
            obtain ⟨b, ys, rfl, h3, h4⟩ := rep_tupE re
            exact ⟨a, b, xs, ys, rfl, .inr ⟨ex_t a2.fh h1, ex_t a2.fh h3, k _ F2 H2 (a1.trans a2) st2 (yl_zipT h1 h3 h2 h4)⟩⟩
          | _ => trivial
        | lst ds =>
          cases e2 with
          | lst es =>
            refine fun R k => h _ fun v F1 H1 a1 st1 rd => ?_
            have z := hq a1 st1
            rw [hr2] at z
            refine z _ fun v2 F2 H2 a2 st2 re => ?_
            obtain ⟨a, xs, rfl, h1, h2⟩ := rep_lst.mp (rd.mono a2.ff)
            obtain ⟨b, ys, rfl, h3, h4⟩ := rep_lst.mp re
            exact ⟨a, b, xs, ys, rfl, .inl ⟨sq_of (a2.fh _ _ h1), sq_of (a2.fh _ _ h3), k _ F2 H2 (a1.trans a2) st2 (yl_zipL (sq_of h1) (sq_of h3) h2 h4)⟩⟩
          | _ => trivial
        | _ => trivial

/-! ### slices -/
def XO (B : Bs) := Option (XE B)
def tpo {B : Bs} (Wx : WX) : Option (XE B) → TO
  | none => tNoPart
  | some p => tPart (p.te Wx)
def evo {B : Bs} (Γ : Gm) (s : HS) (k : Option Int → HS → Res) : Option (XE B) → Res
  | none => k none s
  | some p => (p.ev Γ s).bind fun d s1 => match d with
    | .int i => k (some i) s1
    | _ => .stuck
theorem evo_ok {B : Bs} {w : Wd} {σ : L2.St} {Γ : Gm} (Wx : WX) {F H : Hp} {s : HS} {k : Option Int → HS → Res} {u : Option Int → Hp → VK → Prop} (e : Ex F H) (st : StAt w s F H) (sl : SlsAt B w F H Γ σ)
    (hk : ∀ o s1 F1 H1, Step w F H F1 H1 → StAt w s1 F1 H1 → OkE B w F1 H1 σ Wx (u o H1) (k o s1)) : ∀ o : Option (XE B), OkE B w F H σ Wx (fun Q => tpo Wx o σ H (fun x H1 => u x H1 Q)) (evo Γ s k o)
  | none => hk none s F H (Step.refl e) st
  | some p => by
    refine (p.ok Wx e st sl).seq (u := fun x H1 Q => ∃ i, x = .int i ∧ u (some i) H1 Q) fun d s1 v F1 H1 _ a1 st1 r1 => ?_
    cases d with
    | int i => exact OkE.imp (hk (some i) s1 F1 H1 a1 st1) fun Q q => ⟨i, rep_int.mp r1, q⟩
    | _ => trivial
def cutD (ds : List D) (lo hi : Option Int) : List D := (ds.drop (HT.sIx ds.length 0 lo)).take (HT.sIx ds.length ds.length hi - HT.sIx ds.length 0 lo)
theorem Reps.drop {B : Bs} {w : Wd} {F : Hp} : ∀ {n : Nat} {ds : List D} {vs : List V}, Reps B w F ds vs → Reps B w F (ds.drop n) (vs.drop n)
  | 0, _, _, h => h
  | n + 1, [], _, h => by rw [reps_nil.mp h]; exact reps_nil.mpr rfl
  | n + 1, d :: ds, _, h => by
    obtain ⟨v, vs, rfl, _, h2⟩ := reps_cons.mp h
    exact h2.drop (n := n)
theorem Reps.take {B : Bs} {w : Wd} {F : Hp} : ∀ {n : Nat} {ds : List D} {vs : List V}, Reps B w F ds vs → Reps B w F (ds.take n) (vs.take n)
  | 0, _, _, h => by rw [List.take_zero, List.take_zero]; exact reps_nil.mpr rfl
  | n + 1, [], _, h => by rw [reps_nil.mp h]; exact reps_nil.mpr rfl
  | n + 1, d :: ds, _, h => by
    obtain ⟨v, vs, rfl, h1, h2⟩ := reps_cons.mp h
    exact reps_cons.mpr ⟨v, _, rfl, h1, h2.take (n := n)⟩
theorem Reps.cut {B : Bs} {w : Wd} {F : Hp} {ds : List D} {vs : List V} {lo hi : Option Int} (h : Reps B w F ds vs) : Reps B w F (cutD ds lo hi) (cutV vs lo hi) := by
  unfold cutD cutV
  rw [h.length]
  exact (h.drop).take
theorem cutD_whole {ds : List D} {lo hi : Option Int} (h : HT.sIx ds.length 0 lo = 0 ∧ HT.sIx ds.length ds.length hi = ds.length) : cutD ds lo hi = ds := by
  unfold cutD
  rw [h.1, h.2, List.drop_zero, Nat.sub_zero, List.take_length]
def slF (d : D) (lo hi : Option Int) : Option D := match d with
  | .tup _ ds => some (.tup false (cutD ds lo hi))
  | .lst ds => some (.lst (cutD ds lo hi))
  | .str x => if x.length ≤ 100000 then some (.str (cutS x lo hi)) else none
  | _ => none
def rSl (B : Bs) : V → Option Int → Option Int → Hp → VK → Prop := fun x lo hi H Q => rSlA B.K x lo hi H Q ∨ rSlL B.K x lo hi H Q ∨ rSlS x lo hi H Q
theorem slF_ok {B : Bs} {w : Wd} {F H : Hp} {x : V} {d : D} {lo hi : Option Int} (e : Ex F H) (r : Rep B w F d x) : OkV B w F H (rSl B x lo hi H) (slF d lo hi) := by
  cases d with
  | tup pl ds =>
    obtain ⟨p, xs, rfl, h1, h2⟩ := rep_tupE r
    intro z hz Q k
    cases hz
    refine .inl ⟨p, xs, rfl, ex_t e h1, fun hw => ?_, fun _ q hq => ?_⟩
    · rw [h2.length] at hw
      rw [cutD_whole hw] at k
      exact k _ F H (Step.refl e) (fun _ s => s) (rep_tup.mpr ⟨p, xs, rfl, h1, h2⟩)
    · exact k _ _ _ (Step.new e hq) (fun s st => st.new hq) (rep_tup.mpr ⟨q, _, rfl, st_of upd_same, h2.cut.mono (Ex.new (fresh_back e hq))⟩)
  | lst ds =>
    obtain ⟨p, xs, rfl, h1, h2⟩ := rep_lst.mp r
    exact (OkV.new (o := .lst (cutV xs lo hi)) e fun q hq => rep_lst.mpr ⟨q, _, rfl, upd_same, h2.cut.mono (Ex.new hq)⟩).imp fun Q q' => .inr (.inl ⟨p, xs, rfl, sq_of (e _ _ h1), q'⟩)
  | str y =>
    cases rep_str.mp r
    show OkV B w F H _ (if y.length ≤ 100000 then some (.str (cutS y lo hi)) else none)
    by_cases hc : y.length ≤ 100000
    · rw [if_pos hc]
      exact (OkV.pure e (rep_str.mpr rfl)).imp fun Q q => .inr (.inr ⟨y, rfl, sz_of hc, q⟩)
    · rw [if_neg hc]; exact fun z hz => nomatch hz
  | _ => exact fun z hz => nomatch hz
/-- x[lo:hi] -/
def XE.sli {B : Bs} (p : XE B) (lo hi : Option (XE B)) : XE B where
  te := fun Wx => tSl (rSl B) (p.te Wx) (tpo Wx lo) (tpo Wx hi)
  ev := fun Γ s => (p.ev Γ s).bind fun d s1 => evo Γ s1 (fun l s2 => evo Γ s2 (fun h s3 => Res.opt (slF d l h) s3) hi) lo
  ok := fun {w F H σ Γ s} Wx e st sl => by
    refine (p.ok Wx e st sl).seq (u := fun x H1 Q => tpo Wx lo σ H1 fun l H2 => tpo Wx hi σ H2 fun u H3 => rSl B x l u H3 Q) fun d s1 v F1 H1 _ a1 st1 r1 => ?_
    refine evo_ok Wx (u := fun l H2 Q => tpo Wx hi σ H2 fun u H3 => rSl B v l u H3 Q) a1.fh st1 (sl.step a1) (fun l s2 F2 H2 a2 st2 => ?_) lo
    refine evo_ok Wx (u := fun u H3 Q => rSl B v l u H3 Q) a2.fh st2 ((sl.step a1).step a2) (fun h s3 F3 H3 a3 st3 => ?_) hi
    exact (slF_ok a3.fh ((r1.mono a2.ff).mono a3.ff)).toE st3
theorem sl_D {B : Bs} {X : Cx} (hK : B.K = X.K) : SlR X (rSl B) := by
  unfold rSl
  rw [hK]
  exact SlR.or sl_tupA (SlR.or sl_list sl_str)
end Dv

set_option Elab.async false
set_option linter.all false
set_option maxRecDepth 100000
/-! # dict of a tuple of pairs, tuple of a dict -/
namespace Dv
open PySem PySem.Spec PyProof.Rows L2 Evl

/-! ### tuple(d) -/
section
variable {prog : Program} {w : World} {A : Around} {E : Value → Shared → Prop} {s : Shared} {T : String} {r0 d0 : Addr} {n : Nat} {P : Nat → Value → Prop} {OK : Heap → Prop}
theorem collect_src {Q : List Value → Shared → Prop} (KS : PySem.W.KdlSrc prog w T r0 d0 n P OK) (nohd : A.handled = none) (hok : OK s.heap) (hn : n ≤ sizeLine)
    (hQ : ∀ (h1 : Heap) (tk1 : Nat) (acc1 : Array Value), (∀ b o, s.heap.get? b = some o → h1.get? b = some o) → ItemsOf P acc1 n → Q acc1.toList { s with heap := h1, toks := tk1 }) :
    wpAny (model prog w) A (collect (.ref r0)) Q E s := by
  unfold collect
  refine wpAny_bind (wpAny_runValue (codeAny_builtin PySem.F.entry_proto_collect ?_))
  rw [Around.under_plainId PySem.F.plain_proto_collect ⟨[.ref r0], []⟩]
  show wpAny _ A.in1 (newList [] >>= fun ls => again (.builtin "list.__iadd__" ⟨[ls, .ref r0], []⟩)) _ _ s
  refine wpAny_bind (wpAny_newObj_type ?_)
  refine wpAny_pure ⟨plainId_quiet PySem.F.plain_list_iadd ⟨_, _⟩, codeAny_builtin PySem.F.entry_list_iadd ?_⟩
  rw [Around.under_plainId PySem.F.plain_list_iadd ⟨_, _⟩]
  show wpAny _ A.in1 (Builtin.List.listExtendWith (.ref s.heap.objs.size) (.ref r0) (.ref s.heap.objs.size)) _ _ _
  have hlt := KS.there _ hok
  have hnew : (s.heap.push { cls := .type "list", data := .seq ([] : List Value).toArray }).get? s.heap.objs.size = some { cls := .type "list", data := .seq #[] 0 } := Heap.get?_push_size s.heap rfl
  refine wpAny_mono (PySem.W.kdl_extend (A := A) (R := fun rr s1 => rr = .ok (.ret (.ref s.heap.objs.size)) ∧ ∃ (h1 : Heap) (tk1 : Nat) (acc1 : Array Value) (c1 : Nat), s1 = { s with heap := h1, toks := tk1 } ∧
      (∀ b o, s.heap.get? b = some o → h1.get? b = some o) ∧ h1.get? s.heap.objs.size = some { cls := .type "list", dict := none, data := .seq acc1 c1, slots := #[] } ∧ ItemsOf P acc1 n)
    (s := { s with heap := s.heap.push { cls := .type "list", data := .seq ([] : List Value).toArray } }) KS nohd (KS.keep _ _ hok fun b _ o e => Heap.get?_push_of_some _ e) _ (Nat.ne_of_gt hlt.1) (Nat.ne_of_gt hlt.2) _ 0 hnew
    (fun h1 tk1 acc1 c1 hk e hi => ⟨rfl, h1, tk1, acc1, c1, rfl, fun b o q => hk b o (Nat.ne_of_lt (Heap.lt_size q)) (Heap.get?_push_of_some _ q), e, hi⟩) hn) (fun fin s1 hf => ?_) (fun e s1 hf => ?_)
  · cases fin with
    | done f1 =>
      obtain ⟨e, h1, tk1, acc1, c1, rfl, hk, hS1, hi⟩ := hf
      cases e
      show wpAny _ A (load s.heap.objs.size >>= _) _ _ _
      exact wpAny_bind (wpAny_load hS1 (wpAny_pure (hQ h1 tk1 acc1 hk hi)))
    | again c1 =>
      refine ⟨hf.1, codeAny_mono hf.2 fun rr s2 hr2 => ?_⟩
      obtain ⟨rfl, h1, tk1, acc1, c2, rfl, hk, hS1, hi⟩ := hr2
      show wpAny _ A (load s.heap.objs.size >>= _) _ _ _
      exact wpAny_bind (wpAny_load hS1 (wpAny_pure (hQ h1 tk1 acc1 hk hi)))
  · exact absurd hf.1 (by simp)
theorem new_src {Q1 : Value → Shared → Prop} (KS : PySem.W.KdlSrc prog w "dict" r0 d0 n P OK) (nohd : A.handled = none) (hok : OK s.heap) (hn : n ≤ sizeLine)
    (hq : ∀ (h1 : Heap) (tk1 : Nat) (acc1 : Array Value), (∀ b o, s.heap.get? b = some o → h1.get? b = some o) → ItemsOf P acc1 n → Q1 (.ref h1.objs.size) { s with heap := h1.push { cls := .type "tuple", data := .seq acc1 }, toks := tk1 }) :
    codeAny (model prog w) A (.call (.builtin "tuple.__new__") ⟨[.type "tuple", .ref r0], []⟩) (wants Q1 E) s := by
  refine codeAny_of_tree ?_
  show wpAny _ A.in1 (do checkBuiltinCall "tuple.__new__" ⟨[.type "tuple", .ref r0], []⟩; again (.builtin "tuple.__new__" ⟨[.type "tuple", .ref r0], []⟩)) _ _ s
  refine wpAny_bind (wpAny_of_eq (PySem.F.newCall_tuple_1 (.ref r0)) (wpAny_pure ⟨plainId_quiet PySem.F.plain_tuple_new ⟨_, _⟩, codeAny_builtin PySem.F.entry_tuple_new ?_⟩))
  rw [Around.under_plainId PySem.F.plain_tuple_new ⟨_, _⟩]
  have a1 := PySem.sub_tuple_self
  have a2 := PySem.init_tuple_lookup
  have a3 := PySem.madeHere_tuple
  have a4 := KS.type s hok
  have a5 : A.in1.handled = none := nohd
  wp_walk using wpAny_typeOf a4, collect_src (A := A.in1) KS a5 hok hn
  intro h1 tk1 acc1 hk hacc
  show wpAny _ _ (Builtin.Tuple.tupleExact acc1.toList.toArray >>= fun v => ret v) _ _ _
  unfold Builtin.Tuple.tupleExact
  refine wpAny_bind (wpAny_newObj_type ?_ (by show acc1.toList.toArray.size ≤ sizeLine; simp only [Array.toArray_toList]; rw [hacc.1]; exact hn))
  refine wpAny_pure ?_
  have e : acc1.toList.toArray = acc1 := by simp
  rw [e]
  exact hq h1 tk1 acc1 hk hacc
theorem tuple_src {Q : Value → Shared → Prop} (KS : PySem.W.KdlSrc prog w "dict" r0 d0 n P OK) (nohd : A.handled = none) (hok : OK s.heap) (hn : n ≤ sizeLine)
    (hq : ∀ (h1 : Heap) (tk1 : Nat) (acc1 : Array Value), (∀ b o, s.heap.get? b = some o → h1.get? b = some o) → ItemsOf P acc1 n → Q (.ref h1.objs.size) { s with heap := h1.push { cls := .type "tuple", data := .seq acc1 }, toks := tk1 }) :
    wpAny (model prog w) A (call (.type "tuple") [.ref r0]) Q E s := by
  refine callType_codes (Q₁ := fun ob sn => sn.TypeIs ob "tuple" ∧ Q ob sn) PySem.F.called_tuple (PySem.F.typeCall_tuple_1 (.ref r0)) PySem.F.entry_object_init
    (new_src (A := A.in1) KS nohd hok hn fun h1 tk1 acc1 hk hacc => ⟨⟨_, Heap.get?_push_size _ rfl, rfl⟩, hq h1 tk1 acc1 hk hacc⟩) fun ob sn hs => ?_
  exact ⟨hs.1, PySem.F.args_object_init_2 ob _, object_init_meets PySem.F.called_tuple.init.lookup PySem.F.called_tuple.made (by decide) prog w A.in1 _ sn ⟨hs.1, rfl, hs.2⟩⟩
end
def rTupD : List V → Hp → VK → Prop := fun xs H Q => ∃ (a : Addr) (kvs : List (Key × V)), xs = [.ref a] ∧ Rd H a (.dK kvs) ∧ ∀ (p : Addr) (ob : Obj), H p = none → ob.dict = none → Q (.ref p) (upd H p (.frz ob (.tup (kvs.map fun kv => kV kv.1))))
theorem call_tupD {X : Cx} (calm : X.calm = true) : CallR X (.type "tuple") rTupD := by
  intro pins s σ H xs us Q I r q
  obtain ⟨a, kvs, ex, hd, q⟩ := q
  subst ex
  obtain ⟨u, eu, rx⟩ := vals1 r
  subst eu
  cases rx
  obtain ⟨z, lo, vs, rel, dd⟩ := dk_rd I.hok hd
  obtain ⟨ep, hat⟩ := dd.dictAt
  have ek : (kvs.map fun kv => kV kv.1) = vs.map fun p => kV p.1 := by
    have e0 := congrArg (List.map kV) rel.keys
    rw [List.map_map, List.map_map] at e0
    exact e0
  refine tuple_src (PySem.W.kdl_dict (knd := mixKind X.prog X.w) (kvs := vs) (ep := ep) lo) (I.ok.hd calm) hat (by rw [← rel.length]; exact z) fun h1 tk1 acc1 hk hacc => ?_
  have hv : Vals (vs.map fun p => kV p.1) acc1.toList := keys_at (by rw [Array.length_toList]; exact hacc.1) fun j v e => hacc.2 j v (by rw [← Array.getElem?_toList]; exact e)
  have I1 : Inv X pins σ H { s with heap := h1, toks := tk1 } := I.kept hk
  refine ⟨.ref h1.objs.size, _, I1.laid (t' := tk1) (o := .frz { cls := .type "tuple", data := .seq acc1 } (.tup (kvs.map fun kv => kV kv.1))) (fun b o e => Heap.get?_push_of_some _ e) (Nat.le_refl _) ?_, rfl, q _ _ (I1.hok.fresh (Nat.le_refl _)) rfl⟩
  exact ⟨Heap.get?_push_size _ rfl, by rw [List.length_map]; exact z, acc1.toList, by rw [ek]; exact hv, by rw [Array.toArray_toList]; exact IsTup.new _ _⟩

theorem repK_keys {B : Bs} {w : Wd} {F : Hp} : ∀ {kvs : List (Key × D)} {xs : List (Key × V)}, RepK B w F kvs xs → xs.map (fun kv => kV kv.1) = kvs.map (fun kv => kV kv.1)
  | [], _, r => by rw [repK_nil.mp r]; rfl
  | (k, d) :: kvs, _, r => by
    obtain ⟨v, xs, rfl, _, h2⟩ := repK_cons.mp r
    rw [List.map_cons, List.map_cons, repK_keys h2]
def dKy : Key → D
  | .inl i => .int i
  | .inr x => .str x
theorem rep_dKy {B : Bs} {w : Wd} {F : Hp} : ∀ k : Key, Rep B w F (dKy k) (kV k)
  | .inl _ => rep_int.mpr rfl
  | .inr _ => rep_str.mpr rfl
theorem reps_keys {B : Bs} {w : Wd} {F : Hp} : ∀ {kvs : List (Key × D)}, Reps B w F (kvs.map fun kv => dKy kv.1) (kvs.map fun kv => kV kv.1)
  | [] => reps_nil.mpr rfl
  | (k, d) :: kvs => reps_cons.mpr ⟨_, _, rfl, rep_dKy k, reps_keys⟩
def tupDF : D → Option D
  | .dic kvs => some (.tup true (kvs.map fun kv => dKy kv.1))
  | _ => none
def o_tupD (B : Bs) : OC B := .one tupDF rTupD fun {w F H v d} ex r => by
  cases d with
  | dic kvs =>
    obtain ⟨p, xs, rfl, h3, h4⟩ := rep_dic.mp r
    refine (OkV.newP (us := kvs.map fun kv => kV kv.1) ex reps_keys).imp fun Q q => ⟨p, xs, rfl, .inl (ex _ _ h3), ?_⟩
    rw [repK_keys h4]
    exact q
  | _ => exact fun z hz => nomatch hz
def o_tupA (B : Bs) : OC B := (o_tup B).or (o_tupD B)
theorem call_tupA {B : Bs} {X : Cx} (hK : B.K = X.K) (calm : X.calm = true) : CallR X (.type "tuple") (o_tupA B).r := by
  have h1 : CallR X (.type "tuple") (o_tup B).r := by
    show CallR X (.type "tuple") (rTupP B.K)
    rw [hK]
    exact call_tupP
  exact L2.CallR.or h1 (call_tupD calm)

/-! ### dict(pairs) -/
def putKD (kvs : List (Key × D)) (k : Key) (d : D) : List (Key × D) :=
  if (kvs.any fun kv => decide (kv.1 = k)) = true then kvs.map (fun kv => if kv.1 = k then (kv.1, d) else kv) else kvs ++ [(k, d)]
def mergeD (kvs more : List (Key × D)) : List (Key × D) := more.foldl (fun acc kv => putKD acc kv.1 kv.2) kvs
section
variable {B : Bs} {w : Wd} {F : Hp}
theorem repK_some {k : Key} : ∀ {kvs : List (Key × D)} {xs : List (Key × V)}, RepK B w F kvs xs → (xs.any fun kv => decide (kv.1 = k)) = kvs.any fun kv => decide (kv.1 = k)
  | [], _, r => by rw [repK_nil.mp r]; rfl
  | (k1, d) :: kvs, _, r => by
    obtain ⟨v, xs, rfl, _, h2⟩ := repK_cons.mp r
    rw [List.any_cons, List.any_cons, repK_some h2]
theorem repK_repl {k : Key} {d : D} {v : V} (rv : Rep B w F d v) : ∀ {kvs : List (Key × D)} {xs : List (Key × V)}, RepK B w F kvs xs → RepK B w F (kvs.map fun kv => if kv.1 = k then (kv.1, d) else kv) (xs.map fun kv => if kv.1 = k then (kv.1, v) else kv)
  | [], _, r => by rw [repK_nil.mp r]; exact repK_nil.mpr rfl
  | (k1, d1) :: kvs, _, r => by
    obtain ⟨v1, xs, rfl, h1, h2⟩ := repK_cons.mp r
    rw [List.map_cons, List.map_cons]
    by_cases hk : k1 = k
    · rw [if_pos hk, if_pos hk]; exact repK_cons.mpr ⟨v, _, rfl, rv, repK_repl rv h2⟩
    · rw [if_neg hk, if_neg hk]; exact repK_cons.mpr ⟨v1, _, rfl, h1, repK_repl rv h2⟩
theorem repK_snoc {k : Key} {d : D} {v : V} (rv : Rep B w F d v) : ∀ {kvs : List (Key × D)} {xs : List (Key × V)}, RepK B w F kvs xs → RepK B w F (kvs ++ [(k, d)]) (xs ++ [(k, v)])
  | [], _, r => by rw [repK_nil.mp r]; exact repK_cons.mpr ⟨v, [], rfl, rv, repK_nil.mpr rfl⟩
  | (k1, d1) :: kvs, _, r => by
    obtain ⟨v1, xs, rfl, h1, h2⟩ := repK_cons.mp r
    exact repK_cons.mpr ⟨v1, _, rfl, h1, repK_snoc rv h2⟩
theorem repK_put {k : Key} {d : D} {v : V} (rv : Rep B w F d v) {kvs : List (Key × D)} {xs : List (Key × V)} (r : RepK B w F kvs xs) : RepK B w F (putKD kvs k d) (putK xs k v) := by
  unfold putKD putK
  rw [repK_some r]
  by_cases h : (kvs.any fun kv => decide (kv.1 = k)) = true
  · rw [if_pos h, if_pos h]; exact repK_repl rv r
  · rw [if_neg h, if_neg h]; exact repK_snoc rv r
theorem repK_merge : ∀ {more : List (Key × D)} {ys : List (Key × V)} {kvs : List (Key × D)} {xs : List (Key × V)}, RepK B w F more ys → RepK B w F kvs xs → RepK B w F (mergeD kvs more) (mergeK xs ys)
  | [], _, _, _, r, r0 => by rw [repK_nil.mp r]; exact r0
  | (k, d) :: more, _, kvs, xs, r, r0 => by
    obtain ⟨v, ys, rfl, h1, h2⟩ := repK_cons.mp r
    show RepK B w F (mergeD (putKD kvs k d) more) (mergeK (putK xs k v) ys)
    exact repK_merge h2 (repK_put h1 r0)
end
def kyD : D → Option Key
  | .int i => some (.inl i)
  | .str x => some (.inr x)
  | _ => none
def prsD : List D → Option (List (Key × D))
  | [] => some []
  | .tup _ [k, d] :: r => match kyD k with
    | some k => match prsD r with
      | some l => some ((k, d) :: l)
      | none => none
    | none => none
  | _ :: _ => none
theorem kyD_rep {B : Bs} {w : Wd} {F : Hp} : ∀ {d : D} {k : Key} {v : V}, kyD d = some k → Rep B w F d v → v = kV k
  | .int _, _, _, h, r => by cases h; exact rep_int.mp r
  | .str _, _, _, h, r => by cases h; exact rep_str.mp r
theorem prsD_rep {B : Bs} {w : Wd} {F : Hp} : ∀ {ds : List D} {kvs : List (Key × D)} {xs : List V}, prsD ds = some kvs → Reps B w F ds xs → ∃ (ps : List Addr) (ys : List (Key × V)), xs = ps.map V.ref ∧ Paired (fun p kv => SqT B.K F p [kV kv.1, kv.2]) ps ys ∧ RepK B w F kvs ys
  | [], _, _, h, r => by
    cases h
    rw [reps_nil.mp r]
    exact ⟨[], [], rfl, .nil, repK_nil.mpr rfl⟩
  | .tup _ [k, d] :: r, _, _, h, rr => by
    obtain ⟨v, xs, rfl, h1, h2⟩ := reps_cons.mp rr
    unfold prsD at h
    cases hk : kyD k with
    | none => rw [hk] at h; cases h
    | some k0 =>
      rw [hk] at h
      cases hr : prsD r with
      | none => rw [hr] at h; cases h
      | some l =>
        rw [hr] at h
        cases h
        obtain ⟨p, us, rfl, h3, h4⟩ := rep_tupE h1
        obtain ⟨a, us, rfl, h5, h6⟩ := reps_cons.mp h4
        obtain ⟨b, us, rfl, h7, h8⟩ := reps_cons.mp h6
        cases reps_nil.mp h8
        cases kyD_rep hk h5
        obtain ⟨ps, ys, rfl, h9, h10⟩ := prsD_rep hr h2
        exact ⟨p :: ps, (k0, b) :: ys, rfl, .cons h3 h9, repK_cons.mpr ⟨b, ys, rfl, h7, h10⟩⟩
def rDicT (K : PySem.W.Frag) : List V → Hp → VK → Prop := fun xs H Q => ∃ (a : Addr) (ob : Obj) (ps : List Addr) (kvs : List (Key × V)), xs = [.ref a] ∧ H a = some (.frz ob (.tup (ps.map V.ref))) ∧ ob.dict = none ∧ Paired (fun p kv => SqT K H p [kV kv.1, kv.2]) ps kvs ∧
  ∀ p, H p = none → Q (.ref p) (upd H p (.dK (mergeK [] kvs)))
theorem prs_at {X : Cx} {pins : List (Addr × Obj)} {σ : L2.St} {H : Hp} {s : Shared} (I : Inv X pins σ H s) : ∀ {ps : List Addr} {kvs : List (Key × V)}, Paired (fun p kv => SqT X.K H p [kV kv.1, kv.2]) ps kvs →
    ∃ (prs : List (Key × Value)) (us : List Value), KV kvs prs ∧ prs.length = ps.length ∧ us.length = ps.length ∧ ∀ (j : Nat) (q : Key × Value) (u : Value), prs[j]? = some q → us[j]? = some u → ∃ b, ps[j]? = some b ∧ IsTup s.heap b #[u, q.2] ∧ keyIs q.1 u = true
  | _, _, .nil => ⟨[], [], .nil, rfl, rfl, fun j q u e _ => by simp at e⟩
  | _, _, .cons (a := p) (b := kv) h t => by
    obtain ⟨prs, us, r1, l1, l2, hp⟩ := prs_at I t
    obtain ⟨its, rv, ht, _⟩ := I.tuple h
    obtain ⟨u, y, ei, ru, ry⟩ := vals2 rv
    subst ei
    refine ⟨(kv.1, y) :: prs, u :: us, .cons ⟨rfl, ry⟩ r1, by rw [List.length_cons, List.length_cons, l1], by rw [List.length_cons, List.length_cons, l2], fun j q u' e1 e2 => ?_⟩
    cases j with
    | zero =>
      cases (show some (kv.1, y) = some q from e1)
      cases (show some u = some u' from e2)
      exact ⟨p, rfl, ht, kV_is (P := X.prog) (w := X.w) ru⟩
    | succ j =>
      obtain ⟨b, e3, e4, e5⟩ := hp j q u' (by simpa using e1) (by simpa using e2)
      exact ⟨b, by simpa using e3, e4, e5⟩
theorem call_dicT {X : Cx} (calm : X.calm = true) : CallR X (.type "dict") (rDicT X.K) := by
  intro pins s σ H xs us Q I r q
  obtain ⟨a, ob, ps, kvs, ex, hH, hob, hp, q⟩ := q
  subst ex
  obtain ⟨u, eu, rx⟩ := vals1 r
  subst eu
  cases rx
  obtain ⟨hget, hz, its, rv, ⟨o2, ho2, hc2, n2, hd2⟩⟩ := (show s.heap.get? a = some ob ∧ ObjOk X.prog X.w H s.heap a (.tup (ps.map V.ref)) from I.hok a _ hH)
  rw [hget] at ho2
  cases ho2
  have ei := refs_at rv
  subst ei
  rw [List.length_map] at hz
  obtain ⟨prs, ks, rel, l1, l2, hpr⟩ := prs_at I hp
  let pv : List (Value × Value) := List.zipWith (fun k q => (k, q.2)) ks prs
  have lpv : pv.length = ps.length := by simp [pv, l1, l2]
  have gpv : ∀ (j : Nat) (k v : Value), pv[j]? = some (k, v) → ∃ q, prs[j]? = some q ∧ ks[j]? = some k ∧ q.2 = v := fun j k v e => by
    rw [List.getElem?_zipWith] at e
    cases h1 : ks[j]? with
    | none => rw [h1] at e; cases e
    | some k1 =>
      cases h2 : prs[j]? with
      | none => rw [h1, h2] at e; cases e
      | some q1 =>
        rw [h1, h2] at e
        cases e
        exact ⟨q1, rfl, rfl, rfl⟩
  have items : PairItems s.heap (ps.map Value.ref).toArray (fun j => (ps[j]?).getD 0) pv := ⟨by simp [lpv], fun j k v e => by
    obtain ⟨q1, e1, e2, e3⟩ := gpv j k v e
    obtain ⟨b, e4, e5, _⟩ := hpr j q1 k e1 e2
    subst e3
    exact ⟨by simp [e4], .inl (by show s.heap.IsTuple ((ps[j]?).getD 0) _; rw [e4]; exact e5)⟩⟩
  have have_ : PairsHave (mixKind X.prog X.w) pv.length (PairRel pv) prs := ⟨by rw [l1, lpv], fun i key v e => by
    obtain ⟨q1, e1, e2, e3⟩ := gpv i key v e
    obtain ⟨b, _, _, e6⟩ := hpr i q1 key e1 e2
    subst e3
    exact ⟨q1.1, e1, e6⟩⟩
  refine PySem.call_dict_pairs (knd := mixKind X.prog X.w) (PairArg.tuple a (ps.map Value.ref).toArray (fun j => (ps[j]?).getD 0) pv) (I.ok.hd calm) ⟨⟨ob, n2, hget, hc2, hob, hd2⟩, items⟩ have_ (by rw [lpv]; exact hz) fun h1 tk1 hd k => ?_
  have hm : (s.heap.objs.size == sysModules) = false := beq_eq_false_iff_ne.mpr (Nat.ne_of_gt I.big)
  have hlen : (mergeK [] kvs).length ≤ sizeLine := by
    refine Nat.le_trans (length_mergeK kvs []) ?_
    rw [List.length_nil, Nat.zero_add, rel.length, l1]
    exact hz
  exact ⟨.ref s.heap.objs.size, upd H s.heap.objs.size (.dK (mergeK [] kvs)), I.laid (t' := tk1) (fun b o e => k b o (by simp) e) (Nat.le_refl _) (show ObjOk X.prog X.w _ _ _ (.dK (mergeK [] kvs)) from ⟨hlen, hm, merged [] prs, KV.merge rel .nil, hd⟩), rfl, q _ (I.hok.fresh (Nat.le_refl _))⟩
def dicF : D → Option D
  | .tup true ds => match prsD ds with
    | some kvs => some (.dic (mergeD [] kvs))
    | none => none
  | _ => none
def o_dicT (B : Bs) : OC B := .one dicF (rDicT B.K) fun {w F H v d} ex r => by
  cases d with
  | tup pl ds =>
    cases pl with
    | false => exact fun z hz => nomatch hz
    | true =>
      show OkV B w F H _ (match prsD ds with
        | some kvs => some (.dic (mergeD [] kvs))
        | none => none)
      cases hp : prsD ds with
      | none => exact fun z hz => nomatch hz
      | some kvs =>
        obtain ⟨p, us, rfl, h3, h4, ob, h5, h6⟩ := rep_tupP r
        obtain ⟨ps, ys, rfl, h7, h8⟩ := prsD_rep hp h4
        exact (OkV.new (o := .dK (mergeK [] ys)) ex fun q hq => rep_dic.mpr ⟨q, _, rfl, upd_same, (repK_merge h8 (repK_nil.mpr rfl)).mono (Ex.new hq)⟩).imp fun Q q => ⟨p, ob, ps, ys, rfl, ex _ _ h5, h6, L2.Paired.mapP h7 fun _ _ z => ex_t ex z, q⟩
  | _ => exact fun z hz => nomatch hz
end Dv

set_option Elab.async false
set_option linter.all false
set_option maxRecDepth 100000
/-! # isinstance, is None, texts put together -/
namespace Dv
open PySem PySem.Spec PyProof.Rows L2 Evl

theorem PE.imp {X : Cx} {e : Expr} {t t' : TE} (h : PE X e t') (i : ∀ σ H Q, t σ H Q → t' σ H Q) : PE X e t := ⟨fun pins s σ H Q I q => h.run pins s σ H Q I (i σ H Q q)⟩

/-- kinds of data -/
inductive Kd where
  | non | bl | int | str | lst | tup | dic | ins (c : Str)
deriving DecidableEq
def Kd.ty (B : Bs) : Kd → Value
  | .non => .type "NoneType"
  | .bl => .type "bool"
  | .int => .type "int"
  | .str => .type "str"
  | .lst => .type "list"
  | .tup => .type "tuple"
  | .dic => .type "dict"
  | .ins c => .ref (B.ca c)
def kdD : D → Option Kd
  | .non => some .non
  | .bl _ => some .bl
  | .int _ => some .int
  | .str _ => some .str
  | .lst _ => some .lst
  | .rol _ => some .lst
  | .tup _ _ => some .tup
  | .dic _ => some .dic
  | .ins c _ => some (.ins c)
  | .hnd => none
def TyK (B : Bs) (k : Kd) (x : V) (H : Hp) : Prop := match k with
  | .ins c => ∃ p dx fs, x = .ref p ∧ H p = some (.ins (B.ca c) dx fs)
  | k => TyX B.K H x (k.ty B)
theorem ty_seq {K : PySem.W.Frag} {H : Hp} {p : Addr} {xs : List V} (h : SqL K H p xs) : TyX K H (.ref p) (.type "list") := by
  rcases h with h | ⟨o, its, n, h1, h2, _⟩
  · rcases h with h | ⟨o, h⟩
    · exact .base (.lst h)
    · exact .base (.frz h)
  · exact .kList h1 h2
theorem ty_tup {K : PySem.W.Frag} {H : Hp} {p : Addr} {xs : List V} (h : SqT K H p xs) : TyX K H (.ref p) (.type "tuple") := by
  rcases h with h | ⟨o, its, n, h1, h2, _⟩
  · rcases h with h | ⟨o, h⟩
    · exact .base (.tup h)
    · exact .fTuple h
  · exact .kTuple h1 h2
theorem rep_kd {B : Bs} {w : Wd} {F H : Hp} (e : Ex F H) : ∀ {d : D} {v : V} {k : Kd}, Rep B w F d v → kdD d = some k → TyK B k v H
  | .non, _, _, r, h => by cases h; cases rep_non.mp r; exact .base .non
  | .bl _, _, _, r, h => by cases h; cases rep_bl.mp r; exact .base (.bl _)
  | .int _, _, _, r, h => by cases h; cases rep_int.mp r; exact .base (.int _)
  | .str _, _, _, r, h => by cases h; cases rep_str.mp r; exact .base (.str _)
  | .lst _, _, _, r, h => by cases h; obtain ⟨p, xs, rfl, h1, _⟩ := rep_lst.mp r; exact ty_seq (sq_of (e _ _ h1))
  | .rol _, _, _, r, h => by cases h; obtain ⟨p, rfl, h1⟩ := rep_rol.mp r; exact ty_seq (ex_l e h1)
  | .tup _ _, _, _, r, h => by cases h; obtain ⟨p, xs, rfl, h1, _⟩ := rep_tupE r; exact ty_tup (ex_t e h1)
  | .dic _, _, _, r, h => by cases h; obtain ⟨p, xs, rfl, h1, _⟩ := rep_dic.mp r; exact .base (.dK (e _ _ h1))
  | .ins c _, _, _, r, h => by cases h; obtain ⟨p, dx, xs, rfl, h1, _⟩ := rep_ins.mp r; exact ⟨p, dx, xs, rfl, e _ _ h1⟩
def isiE (f : Kd → Option Bool) (d : D) (s : HS) : Res := match kdD d with
  | some k => match f k with
    | some b => .ret (.bl b) s
    | none => .stuck
  | none => .stuck
/-- isinstance(x, C) -/
def XE.isi {B : Bs} (f : Kd → Option Bool) (p : XE B) : XE B where
  te := fun Wx σ H Q => p.te Wx σ H fun x H1 => ∃ k b, TyK B k x H1 ∧ f k = some b ∧ Q (.bl b) H1
  ev := fun Γ s => (p.ev Γ s).bind fun d s1 => isiE f d s1
  ok := fun {w F H σ Γ s} Wx e st sl => by
    refine (p.ok Wx e st sl).seq (u := fun x H1 Q => ∃ k b, TyK B k x H1 ∧ f k = some b ∧ Q (.bl b) H1) fun d s1 v F1 H1 _ a1 st1 r1 => ?_
    show OkE B w F1 H1 σ Wx _ (isiE f d s1)
    unfold isiE
    cases hk : kdD d with
    | none => trivial
    | some k =>
      cases hf : f k with
      | none => simp only [hf]; trivial
      | some b =>
        simp only [hf]
        exact OkE.imp (OkE.pure a1.fh st1 (rep_bl.mpr rfl)) fun Q q => ⟨k, b, rep_kd a1.fh r1 hk, hf, q⟩
/-- isinstance(x, (C, D, ..)): the tuple is laid -/
def XE.isiT {B : Bs} (f : Kd → Option Bool) (p : XE B) : XE B where
  te := fun Wx σ H Q => p.te Wx σ H fun x H1 => ∀ (T : Addr) (cs : List V), H1 T = none → ∃ k b, TyK B k x (upd H1 T (.tup cs)) ∧ f k = some b ∧ Q (.bl b) (upd H1 T (.tup cs))
  ev := fun Γ s => (p.ev Γ s).bind fun d s1 => isiE f d s1
  ok := fun {w F H σ Γ s} Wx e st sl => by
    refine (p.ok Wx e st sl).seq (u := fun x H1 Q => ∀ (T : Addr) (cs : List V), H1 T = none → ∃ k b, TyK B k x (upd H1 T (.tup cs)) ∧ f k = some b ∧ Q (.bl b) (upd H1 T (.tup cs))) fun d s1 v F1 H1 _ a1 st1 r1 => ?_
    show OkE B w F1 H1 σ Wx _ (isiE f d s1)
    unfold isiE
    cases hk : kdD d with
    | none => trivial
    | some k =>
      cases hf : f k with
      | none => simp only [hf]; trivial
      | some b =>
        simp only [hf]
        intro Q q T cs hT
        have a2 : Step w F1 H1 (upd F1 T (.tup cs)) (upd H1 T (.tup cs)) := Step.new a1.fh hT
        exact ⟨k, b, rep_kd a2.fh (r1.mono a2.ff) hk, hf, q _ _ _ a2 (st1.new hT) (rep_bl.mpr rfl)⟩
/-- what a class's kinds answer -/
structure IsiOk (B : Bs) (X : Cx) (us : List Value) (f : Kd → Option Bool) : Prop where
  kit : ∀ k b, f k = some b → PySem.W.kitAny X.K (k.ty B) us = some b
  ins : ∀ c b, f (.ins c) = some b → C8.InsC X.K (B.ca c)
theorem tyk_x {B : Bs} {X : Cx} {us : List Value} {f : Kd → Option Bool} {k : Kd} {b : Bool} {x : V} {H : Hp} (hK : B.K = X.K) (h : IsiOk B X us f) (hf : f k = some b) (t : TyK B k x H) : TyX X.K H x (k.ty B) := by
  cases k with
  | ins c =>
    obtain ⟨p, dx, fs, rfl, hp⟩ := t
    have i := h.ins c b hf
    exact .base (.ins hp i.cl i.ha i.hn i.htk i.hm)
  | _ => rw [← hK]; exact t
theorem kit_one {K : PySem.W.Frag} {t u : Value} {b : Bool} (h : PySem.W.kitAny K t [u] = some b) : PySem.W.kitOne K t u = some b := by
  unfold PySem.W.kitAny at h
  cases h1 : PySem.W.kitOne K t u with
  | none => rw [h1] at h; cases h
  | some c =>
    rw [h1] at h
    cases c with
    | true => exact h
    | false => exact h
theorem pe_isi {B : Bs} {X : Cx} {f : Kd → Option Bool} {e c : Expr} {te : TE} {cv : V} {u : Value} {p pos : Pos} (hK : B.K = X.K) (h : IsiOk B X [u] f) (hg : Gl X "isinstance") (hm : X.mg "isinstance" = none) (he : PE X e te) (hc : PE X c (tC cv)) (hu : ClsV cv u)
    (n1 : starEach [e, c] X.env = (false, eval e X.env) :: starEach [c] X.env := by rfl) (n2 : starEach [c] X.env = (false, eval c X.env) :: starEach [] X.env := by rfl) (hpl : (backTo pos (starEach [c] X.env)).any (·.1) = false := by rfl) :
    PE X (.Call (.Name "isinstance" p) [e, c] [] pos) (fun σ H Q => te σ H fun x H1 => ∃ k b, TyK B k x H1 ∧ f k = some b ∧ Q (.bl b) H1) := by
  refine PE.imp (pe_callB (call_isi (X := X)) hg hm (by decide +kernel) (pa_cons (pe_mo he) (pa_cons hc pa_nil n2) n1) (he := n1) (hpl := hpl)) fun σ H Q q => ?_
  refine ⟨_, q, fun x H1 q1 => ?_⟩
  obtain ⟨k, b, t, hf, q1⟩ := q1
  exact ⟨x, cv, k.ty B, u, b, rfl, hu, tyk_x hK h hf t, kit_one (h.kit k b hf), q1⟩
theorem pe_isiT {B : Bs} {X : Cx} {f : Kd → Option Bool} {e : Expr} {es : List Expr} {te : TE} {ta : TA} {cs : List V} {us : List Value} {p pos tpos : Pos} {x1} (hK : B.K = X.K) (h : IsiOk B X us f) (hg : Gl X "isinstance") (hm : X.mg "isinstance" = none) (he : PE X e te) (hc : PA X es ta)
    (ht : ∀ σ H (Q : List V → Hp → Prop), Q cs H → ta σ H Q) (hz : cs.length ≤ 1000) (hu : Paired ClsV cs us)
    (n1 : starEach [e, .Tuple es x1 tpos] X.env = (false, eval e X.env) :: starEach [.Tuple es x1 tpos] X.env := by rfl) (n2 : starEach [.Tuple es x1 tpos] X.env = (false, eval (.Tuple es x1 tpos) X.env) :: starEach [] X.env := by rfl)
    (hpl : (backTo pos (starEach [.Tuple es x1 tpos] X.env)).any (·.1) = false := by rfl) :
    PE X (.Call (.Name "isinstance" p) [e, .Tuple es x1 tpos] [] pos) (fun σ H Q => te σ H fun x H1 => ∀ (T : Addr) (cs : List V), H1 T = none → ∃ k b, TyK B k x (upd H1 T (.tup cs)) ∧ f k = some b ∧ Q (.bl b) (upd H1 T (.tup cs))) := by
  refine PE.imp (pe_callB (call_isiT (X := X)) hg hm (by decide +kernel) (pa_cons (pe_mo he) (pa_cons (pe_tup hc) pa_nil n2) n1) (he := n1) (hpl := hpl)) fun σ H Q q => ?_
  refine ⟨_, q, fun x H1 q1 => ht _ _ _ ⟨Nat.le_trans hz (by decide), fun T hT => ?_⟩⟩
  obtain ⟨k, b, t, hf, q1⟩ := q1 T cs hT
  exact ⟨x, T, cs, k.ty B, us, b, rfl, upd_same, hu, tyk_x hK h hf t, h.kit k b hf, q1⟩

/-! ### x is None -/
def o_isN (B : Bs) : O2 B where
  r := rIsN
  f := fun d e => match e with
    | .non => match d with
      | .non => some (.bl true)
      | .hnd => none
      | _ => some (.bl false)
    | _ => none
  ok := fun {w F H x y d e} ex r1 r2 => by
    cases e with
    | non =>
      cases rep_non.mp r2
      cases d with
      | non => cases rep_non.mp r1; exact (OkV.pure ex (rep_bl.mpr rfl)).imp fun Q q => ⟨rfl, q⟩
      | hnd => exact fun z hz => nomatch hz
      | bl _ => cases rep_bl.mp r1; exact (OkV.pure ex (rep_bl.mpr rfl)).imp fun Q q => ⟨rfl, q⟩
      | int _ => cases rep_int.mp r1; exact (OkV.pure ex (rep_bl.mpr rfl)).imp fun Q q => ⟨rfl, q⟩
      | str _ => cases rep_str.mp r1; exact (OkV.pure ex (rep_bl.mpr rfl)).imp fun Q q => ⟨rfl, q⟩
      | lst _ => obtain ⟨p, xs, rfl, _⟩ := rep_lst.mp r1; exact (OkV.pure ex (rep_bl.mpr rfl)).imp fun Q q => ⟨rfl, q⟩
      | rol _ => obtain ⟨p, rfl, _⟩ := rep_rol.mp r1; exact (OkV.pure ex (rep_bl.mpr rfl)).imp fun Q q => ⟨rfl, q⟩
      | tup _ _ => obtain ⟨p, xs, rfl, _⟩ := rep_tupE r1; exact (OkV.pure ex (rep_bl.mpr rfl)).imp fun Q q => ⟨rfl, q⟩
      | dic _ => obtain ⟨p, xs, rfl, _⟩ := rep_dic.mp r1; exact (OkV.pure ex (rep_bl.mpr rfl)).imp fun Q q => ⟨rfl, q⟩
      | ins _ _ => obtain ⟨p, _, _, rfl, _⟩ := rep_ins.mp r1; exact (OkV.pure ex (rep_bl.mpr rfl)).imp fun Q q => ⟨rfl, q⟩
    | _ => exact fun z hz => nomatch hz

/-! ### f'..' -/
def fmtE (d : D) (s : HS) : Res := match d with
  | .str y => if y.length ≤ 100000 then .ret (.str y) s else .stuck
  | .int i => if i.natAbs.log2 < 1920 then .ret (.str (toString i)) s else .stuck
  | _ => .stuck
/-- {x} -/
def XE.fmt {B : Bs} (p : XE B) : XE B where
  te := fun Wx => tFmt (p.te Wx)
  ev := fun Γ s => (p.ev Γ s).bind fun d s1 => fmtE d s1
  ok := fun {w F H σ Γ s} Wx e st sl => by
    refine (p.ok Wx e st sl).seq (u := fun x H1 Q => (∃ y : Str, x = .str y ∧ y.length ≤ sizeLine ∧ Q (.str y) H1) ∨ ∃ i : Int, x = .int i ∧ i.natAbs.log2 < 1920 ∧ Q (.str (toString i)) H1) fun d s1 v F1 H1 _ a1 st1 r1 => ?_
    cases d with
    | str y =>
      cases rep_str.mp r1
      show OkE B w F1 H1 σ Wx _ (if y.length ≤ 100000 then .ret (.str y) s1 else .stuck)
      by_cases hc : y.length ≤ 100000
      · rw [if_pos hc]; exact OkE.imp (OkE.pure a1.fh st1 (rep_str.mpr rfl)) fun Q q => .inl ⟨y, rfl, sz_of hc, q⟩
      · rw [if_neg hc]; trivial
    | int i =>
      cases rep_int.mp r1
      show OkE B w F1 H1 σ Wx _ (if i.natAbs.log2 < 1920 then .ret (.str (toString i)) s1 else .stuck)
      by_cases hc : i.natAbs.log2 < 1920
      · rw [if_pos hc]; exact OkE.imp (OkE.pure a1.fh st1 (rep_str.mpr rfl)) fun Q q => .inr ⟨i, rfl, hc, q⟩
      · rw [if_neg hc]; trivial
    | _ => trivial
def jnE {B : Bs} (Γ : Gm) : List (XE B) → Str → HS → Res
  | [], acc, s => .ret (.str acc) s
  | p :: ps, acc, s => (p.ev Γ s).bind fun d s1 => match d with
    | .str y => if (acc ++ y).length ≤ 100000 then jnE Γ ps (acc ++ y) s1 else .stuck
    | _ => .stuck
theorem jn_ok {B : Bs} {w : Wd} {σ : L2.St} {Γ : Gm} (Wx : WX) : ∀ (ps : List (XE B)) {F H : Hp} {s : HS} (acc : Str), Ex F H → StAt w s F H → SlsAt B w F H Γ σ →
    OkE B w F H σ Wx (fun Q => tJs (ps.map fun p => p.te Wx) acc σ H fun out H1 => Q (.str out) H1) (jnE Γ ps acc s)
  | [], F, H, s, acc, e, st, sl => OkE.pure e st (rep_str.mpr rfl)
  | p :: ps, F, H, s, acc, e, st, sl => by
    refine (p.ok Wx e st sl).seq (u := fun x H1 Q => ∃ y : Str, x = .str y ∧ (acc ++ y).length ≤ sizeLine ∧ tJs (ps.map fun p => p.te Wx) (acc ++ y) σ H1 fun out H1 => Q (.str out) H1) fun d s1 v F1 H1 _ a1 st1 r1 => ?_
    cases d with
    | str y =>
      cases rep_str.mp r1
      show OkE B w F1 H1 σ Wx _ (if (acc ++ y).length ≤ 100000 then jnE Γ ps (acc ++ y) s1 else .stuck)
      by_cases hc : (acc ++ y).length ≤ 100000
      · rw [if_pos hc]; exact OkE.imp (jn_ok Wx ps (acc ++ y) a1.fh st1 (sl.step a1)) fun Q q => ⟨y, rfl, sz_of hc, q⟩
      · rw [if_neg hc]; trivial
    | _ => trivial
/-- f'..' of two parts or more -/
def XE.jn {B : Bs} (ps : List (XE B)) : XE B where
  te := fun Wx σ H Q => tJs (ps.map fun p => p.te Wx) Str.empty σ H fun out H1 => Q (.str out) H1
  ev := fun Γ s => jnE Γ ps Str.empty s
  ok := fun {w F H σ Γ s} Wx e st sl => jn_ok Wx ps Str.empty e st sl
end Dv

set_option Elab.async false
set_option linter.all false
set_option maxRecDepth 100000
/-! # The source of draws: what is read of it, what is written -/
namespace Dv
open PySem PySem.Spec PyProof.Rows L2 Evl

section
variable {B : Bs} {w : Wd} {F H : Hp} {s : HS}
theorem hnd_at {σ : L2.St} {Γ : Gm} {i : Nat} (sl : SlsAt B w F H Γ σ) (h : Γ[i]? = some (.fr .hnd)) : ∃ ha ca, w = some (ha, ca) ∧ σ[i]? = some (some (.ref ha)) := by
  obtain ⟨v, h1, x, h2, r⟩ := sl i _ h
  obtain ⟨ha, ca, e1, e2⟩ := rep_hnd.mp r
  subst h2 e2
  exact ⟨ha, ca, e1, h1⟩
theorem step_h {ha ca : Addr} (e : Ex F H) (st : StAt (some (ha, ca)) s F H) (x y : Int) : Step (some (ha, ca)) F H F (upd H ha (.lst [.int x, .ref ca, .int y])) ∧ StAt (some (ha, ca)) { s with st := x, ix := y } F (upd H ha (.lst [.int x, .ref ca, .int y])) := by
  obtain ⟨h1, h2, h3, h4, h5⟩ := st
  refine ⟨⟨Ex.refl F, fun a u q => ?_, fun a u q1 q2 q3 => ⟨q2, ?_⟩⟩, h1, h2, h3, upd_same, ?_⟩
  · have n : a ≠ ha := fun z => by rw [z, h2] at q; cases q
    rw [upd_ne n]; exact e a u q
  · rw [upd_ne q3.1]; exact q1
  · rw [upd_ne (Ne.symm h1)]; exact h5
theorem step_c {ha ca : Addr} (e : Ex F H) (st : StAt (some (ha, ca)) s F H) (ns : List Int) : Step (some (ha, ca)) F H F (upd H ca (.lst (ns.map V.int))) ∧ StAt (some (ha, ca)) { s with cells := ns } F (upd H ca (.lst (ns.map V.int))) := by
  obtain ⟨h1, h2, h3, h4, h5⟩ := st
  refine ⟨⟨Ex.refl F, fun a u q => ?_, fun a u q1 q2 q3 => ⟨q2, ?_⟩⟩, h1, h2, h3, ?_, upd_same⟩
  · have n : a ≠ ca := fun z => by rw [z, h3] at q; cases q
    rw [upd_ne n]; exact e a u q
  · rw [upd_ne q3.2]; exact q1
  · rw [upd_ne h1]; exact h4
end
def isHnd (Γ : Gm) (i : Nat) : Bool := match Γ[i]? with
  | some (.fr .hnd) => true
  | _ => false
theorem isHnd_eq {Γ : Gm} {i : Nat} (h : isHnd Γ i = true) : Γ[i]? = some (.fr .hnd) := by
  unfold isHnd at h
  split at h
  · rename_i e; exact e
  · cases h
/-- h[0] -/
def XE.h0 (B : Bs) (i : Nat) : XE B where
  te := fun _ => tOp (rIxL B.K) (tVar i) (tC (.int 0))
  ev := fun Γ s => if isHnd Γ i = true then .ret (.int s.st) s else .stuck
  ok := fun {w F H σ Γ s} Wx e st sl => by
    by_cases h : isHnd Γ i = true
    · rw [if_pos h]
      obtain ⟨ha, ca, rfl, h1⟩ := hnd_at sl (isHnd_eq h)
      exact fun Q q => ⟨_, h1, ha, _, 0, .int s.st, rfl, rfl, sq_of st.2.2.2.1, rfl, q _ F H (Step.refl e) st (rep_int.mpr rfl)⟩
    · rw [if_neg h]; trivial
/-- h[2] -/
def XE.h2 (B : Bs) (i : Nat) : XE B where
  te := fun _ => tOp (rIxL B.K) (tVar i) (tC (.int 2))
  ev := fun Γ s => if isHnd Γ i = true then .ret (.int s.ix) s else .stuck
  ok := fun {w F H σ Γ s} Wx e st sl => by
    by_cases h : isHnd Γ i = true
    · rw [if_pos h]
      obtain ⟨ha, ca, rfl, h1⟩ := hnd_at sl (isHnd_eq h)
      exact fun Q q => ⟨_, h1, ha, _, 2, .int s.ix, rfl, rfl, sq_of st.2.2.2.1, rfl, q _ F H (Step.refl e) st (rep_int.mpr rfl)⟩
    · rw [if_neg h]; trivial
/-- h[1] + [0] -/
def XE.hcat (B : Bs) (i : Nat) : XE B where
  te := fun _ => tOp rCat (tOp (rIxL B.K) (tVar i) (tC (.int 1))) (tLst (tCons (tC (.int 0)) tNil))
  ev := fun Γ s => if isHnd Γ i = true ∧ s.cells.length + 1 ≤ 100000 then .ret (.lst ((s.cells ++ [0]).map D.int)) s else .stuck
  ok := fun {w F H σ Γ s} Wx e st sl => by
    by_cases h : isHnd Γ i = true ∧ s.cells.length + 1 ≤ 100000
    · rw [if_pos h]
      obtain ⟨ha, ca, rfl, h1⟩ := hnd_at sl (isHnd_eq h.1)
      intro Q q
      refine ⟨_, h1, ha, _, 1, .ref ca, rfl, rfl, sq_of st.2.2.2.1, rfl, by show 1 ≤ sizeLine; decide, fun p hp => ?_⟩
      have nc : ca ≠ p := ne_of_none st.2.2.2.2 hp
      have a1 : Step (some (ha, ca)) F H (upd F p (.lst [.int 0])) (upd H p (.lst [.int 0])) := Step.new e hp
      have s1 := st.new (o := .lst [.int 0]) hp
      refine ⟨ca, p, _, _, rfl, rfl, s1.2.2.2.2, upd_same, by rw [List.length_map]; exact sz_of h.2, fun r hr => ?_⟩
      have a2 := Step.new (w := some (ha, ca)) (o := .lst (s.cells.map V.int ++ [.int 0])) a1.fh hr
      refine q _ _ _ (a1.trans a2) (s1.new hr) (rep_lst.mpr ⟨r, _, rfl, upd_same, ?_⟩)
      have : (s.cells.map V.int ++ [V.int 0]) = (s.cells ++ [0]).map V.int := by simp
      rw [this]
      exact reps_ints
    · rw [if_neg h]; trivial
/-- len(h[1]) -/
def XE.hlen (B : Bs) (i : Nat) : XE B where
  te := fun _ => tCB (o_len B).r (tCons (tOp (rIxL B.K) (tVar i) (tC (.int 1))) tNil)
  ev := fun Γ s => if isHnd Γ i = true then .ret (.int (s.cells.length : Nat)) s else .stuck
  ok := fun {w F H σ Γ s} Wx e st sl => by
    by_cases h : isHnd Γ i = true
    · rw [if_pos h]
      obtain ⟨ha, ca, rfl, h1⟩ := hnd_at sl (isHnd_eq h)
      intro Q q
      refine ⟨_, h1, ha, _, 1, .ref ca, rfl, rfl, sq_of st.2.2.2.1, rfl, .ref ca, _, rfl, .inl ⟨_, sq_of st.2.2.2.2, rfl⟩, ?_⟩
      rw [List.length_map]
      exact q _ F H (Step.refl e) st (rep_int.mpr rfl)
    · rw [if_neg h]; trivial
def hput (j : Nat) (d : D) (Γ : Gm) (i : Nat) (s : HS) : Out := match d with
  | .int n => if isHnd Γ i = true then .nxt Γ (if j = 0 then { s with st := n } else { s with ix := n }) else .stuck
  | _ => .stuck
/-- h[0] = e -/
def XS.h0 {B : Bs} (i : Nat) (p : XE B) : XS B where
  ts := fun Wx => tAsg (p.te Wx) (gSub (tVar i) (tC (.int 0)) rSetL)
  ev := fun Γ s => (p.ev Γ s).out Γ fun d s1 => hput 0 d Γ i s1
  ok := fun {w Z F H σ Γ s} Wx D' g => by
    refine (p.ok Wx g.fh g.st g.sl).stm g (u := fun x H1 => gSub (tVar i) (tC (.int 0)) rSetL x σ H1 D'.nx) fun d s1 v F1 H1 _ a g1 r => ?_
    cases d with
    | int n =>
      show OkS B w Z F1 Wx D' _ (if isHnd Γ i = true then .nxt Γ { s1 with st := n } else .stuck)
      by_cases h : isHnd Γ i = true
      · rw [if_pos h]
        obtain ⟨ha, ca, rfl, h1⟩ := hnd_at g1.sl (isHnd_eq h)
        cases rep_int.mp r
        obtain ⟨k1, k2⟩ := step_h g1.fh g1.st n s1.ix
        exact fun q => ⟨_, h1, ha, _, 0, 0, rfl, rfl, g1.st.2.2.2.1, rfl, q F1 _ σ (Ex.refl F1) (g1.step k1 k2)⟩
      · rw [if_neg h]; trivial
    | _ => trivial
/-- h[2] = e -/
def XS.h2 {B : Bs} (i : Nat) (p : XE B) : XS B where
  ts := fun Wx => tAsg (p.te Wx) (gSub (tVar i) (tC (.int 2)) rSetL)
  ev := fun Γ s => (p.ev Γ s).out Γ fun d s1 => hput 2 d Γ i s1
  ok := fun {w Z F H σ Γ s} Wx D' g => by
    refine (p.ok Wx g.fh g.st g.sl).stm g (u := fun x H1 => gSub (tVar i) (tC (.int 2)) rSetL x σ H1 D'.nx) fun d s1 v F1 H1 _ a g1 r => ?_
    cases d with
    | int n =>
      show OkS B w Z F1 Wx D' _ (if isHnd Γ i = true then .nxt Γ { s1 with ix := n } else .stuck)
      by_cases h : isHnd Γ i = true
      · rw [if_pos h]
        obtain ⟨ha, ca, rfl, h1⟩ := hnd_at g1.sl (isHnd_eq h)
        cases rep_int.mp r
        obtain ⟨k1, k2⟩ := step_h g1.fh g1.st s1.st n
        exact fun q => ⟨_, h1, ha, _, 2, 2, rfl, rfl, g1.st.2.2.2.1, rfl, q F1 _ σ (Ex.refl F1) (g1.step k1 k2)⟩
      · rw [if_neg h]; trivial
    | _ => trivial
def hcut (d e : D) (Γ : Gm) (i : Nat) (s : HS) : Out := match d with
  | .int n => match e with
    | .int k => if isHnd Γ i = true then match ixN s.cells.length k with
        | some j => .nxt Γ { s with cells := s.cells.set j n }
        | none => .stuck
      else .stuck
    | _ => .stuck
  | _ => .stuck
/-- h[1][k] = e -/
def XS.hc {B : Bs} (i : Nat) (k p : XE B) : XS B where
  ts := fun Wx => tAsg (p.te Wx) (gSub (tOp (rIxL B.K) (tVar i) (tC (.int 1))) (k.te Wx) rSetL)
  ev := fun Γ s => if isHnd Γ i = true then (p.ev Γ s).out Γ fun d s1 => (k.ev Γ s1).out Γ fun e s2 => hcut d e Γ i s2 else .stuck
  ok := fun {w Z F H σ Γ s} Wx D' g => by
    refine if h : isHnd Γ i = true then ?_ else by rw [if_neg h]; trivial
    rw [if_pos h]
    refine (p.ok Wx g.fh g.st g.sl).stm g (u := fun x H1 => gSub (tOp (rIxL B.K) (tVar i) (tC (.int 1))) (k.te Wx) rSetL x σ H1 D'.nx) fun d s1 v F1 H1 _ a g1 r => ?_
    · obtain ⟨ha, ca, rfl, h1⟩ := hnd_at g1.sl (isHnd_eq h)
      refine OkS.imp (t := k.te Wx σ H1 fun j H2 => rSetL (.ref ca) j v H2 fun H3 => D'.nx σ H3) ?_ fun q => ⟨_, h1, ha, _, 1, .ref ca, rfl, rfl, sq_of g1.st.2.2.2.1, rfl, q⟩
      refine (k.ok Wx g1.fh g1.st g1.sl).stm g1 (u := fun j H2 => rSetL (.ref ca) j v H2 fun H3 => D'.nx σ H3) fun e s2 v2 F2 H2 _ a2 g2 r2 => ?_
      cases d with
      | int n =>
        cases e with
        | int j =>
          show OkS B _ Z F2 Wx D' _ (if isHnd Γ i = true then match ixN s2.cells.length j with
            | some j => .nxt Γ { s2 with cells := s2.cells.set j n }
            | none => .stuck
          else .stuck)
          rw [if_pos h]
          cases hj : ixN s2.cells.length j with
          | none => trivial
          | some m =>
            cases rep_int.mp r
            cases rep_int.mp r2
            obtain ⟨k1, k2⟩ := step_c g2.fh g2.st (s2.cells.set m n)
            refine fun q => ⟨ca, _, j, m, rfl, rfl, g2.st.2.2.2.2, by rw [List.length_map]; exact hj, ?_⟩
            have em : (s2.cells.map V.int).set m (V.int n) = (s2.cells.set m n).map V.int := by rw [List.map_set]
            rw [em]
            exact q F2 _ σ (Ex.refl F2) (g2.step k1 k2)
        | _ => trivial
      | _ => trivial
def o_max2 (B : Bs) : OC B where
  r := fun xs H Q => ∃ i j, xs = [.int i, .int j] ∧ Q (.int (if j > i then j else i)) H
  f := fun ds => match ds with
    | [.int i, .int j] => some (.int (if j > i then j else i))
    | _ => none
  ok := fun {w F H xs ds} ex rs => by
    split
    · obtain ⟨x, r, rfl, h1, h2⟩ := reps_cons.mp rs
      obtain ⟨y, r, rfl, h3, h4⟩ := reps_cons.mp h2
      cases reps_nil.mp h4
      cases rep_int.mp h1
      cases rep_int.mp h3
      exact (OkV.pure ex (rep_int.mpr rfl)).imp fun Q q => ⟨_, _, rfl, q⟩
    · exact fun z hz => nomatch hz
end Dv

set_option Elab.async false
set_option linter.all false
set_option maxRecDepth 100000
/-! # The law's own defs: the source of draws is made, the law's body -/
namespace Dv
open PySem PySem.Spec PyProof.Rows L2 Evl

/-! ### a source is made -/
def mixF (ns : List Int) (k : Int) : Int := ns.foldl (fun st c => (st * 48271 + c % 2147483629 + 1) % 2147483647) k
def spMix (K : PySem.W.Frag) : Sp := fun vs H Q _ => ∃ (a : Addr) (ns : List Int) (k : Int), vs = [.ref a, .int k] ∧ SqL K H a (ns.map V.int) ∧ 0 ≤ k ∧ k < 2147483647 ∧
  ∀ (h c : Addr) (H' : Hp), h ≠ c → H h = none → H c = none → H' h = some (.lst [.int (mixF ns k), .ref c, .int 0]) → H' c = some (.lst (ns.map V.int)) → Ex H H' → Q (.ref h) H'
def rLisL (K : PySem.W.Frag) : List V → Hp → VK → Prop := fun xs H Q => ∃ p ys, xs = [.ref p] ∧ (SqL K H p ys ∨ SqT K H p ys) ∧ ∀ l, H l = none → Q (.ref l) (upd H l (.lst ys))
/-- state = int(state * 48271 + int(cell) % 2147483629 + 1) % 2147483647 -/
def mixE (B : Bs) : XE B := .op2 (o_modI B) (.blt (o_int B) [.op2 (o_add B) (.op2 (o_add B) (.op2 (o_mulI B) (.var B 2) (.int B 48271)) (.op2 (o_modI B) (.blt (o_int B) [.var B 3]) (.int B 2147483629))) (.int B 1)]) (.int B 2147483647)
def mixP (B : Bs) : XS B := .seq (.set 2 (.var B 1)) (.for (.of (.var B 0)) (.name B 3) (.set 2 (mixE B)))
theorem mix_step {B : Bs} {x : Sl} {st c : Int} {s : HS} {a b : Sl} (h0 : 0 ≤ st) (h1 : st < 2147483647) : (mixE B).ev [a, b, .fr (.int st), .fr (.int c)] s = .ret (.int ((st * 48271 + c % 2147483629 + 1) % 2147483647)) s := by
  have hm : CMul st 48271 := .inr ⟨by decide, by decide⟩
  simp [mixE, XE.op2, XE.blt, evs, XE.var, XE.cst, Sl.get, Res.bind, Res.opt, O2.intC, o_add, O2.or, o_addI, O2.int0, o_int, OC.one, hm]
theorem mix_loop {B : Bs} {a b : Sl} {s : HS} : ∀ (ns : List Int) (st : Int) (x : Sl), 0 ≤ st → st < 2147483647 →
    ∃ x', forL (B := B) (.name B 3) (XS.set 2 (mixE B)).ev (ns.map D.int) [a, b, .fr (.int st), x] s = .nxt [a, b, .fr (.int (mixF ns st)), x'] s
  | [], st, x, _, _ => ⟨x, rfl⟩
  | n :: ns, st, x, h0, h1 => by
    have e1 : (XS.set 2 (mixE B)).ev [a, b, .fr (.int st), .fr (.int n)] s = .nxt [a, b, .fr (.int ((st * 48271 + n % 2147483629 + 1) % 2147483647)), .fr (.int n)] s := by
      show ((mixE B).ev [a, b, .fr (.int st), .fr (.int n)] s).out _ _ = _
      rw [mix_step (x := x) h0 h1]
      rfl
    obtain ⟨x', e2⟩ := mix_loop (B := B) (a := a) (b := b) (s := s) ns ((st * 48271 + n % 2147483629 + 1) % 2147483647) (.fr (.int n)) (Int.emod_nonneg _ (by decide)) (Int.emod_lt_of_pos _ (by decide))
    refine ⟨x', ?_⟩
    show ((XS.set 2 (mixE B)).ev [a, b, .fr (.int st), .fr (.int n)] s).turn _ = _
    rw [e1]
    exact e2
theorem mix_ev {B : Bs} {ns : List Int} {k : Int} {s : HS} (h0 : 0 ≤ k) (h1 : k < 2147483647) : ∃ x', (mixP B).ev [.fr (.rol ns), .fr (.int k), .no, .no] s = .nxt [.fr (.rol ns), .fr (.int k), .fr (.int (mixF ns k)), x'] s :=
  mix_loop (B := B) ns k .no h0 h1
theorem mix_body {B : Bs} {N : List Str} (hN : N.length = 4) {vs : List V} {H : Hp} {Q : VK} {E : XK} (Wx : WX) (h : spMix B.K vs H Q E) :
    tSeq ((mixP B).ts Wx) (tRet (tLst (tCons (tVar 2) (tCons (tCB (rLisL B.K) (tCons (tVar 0) tNil)) (tCons (tC (.int 0)) tNil))))) { nx := fun _ H' => Q .non H', rt := Q } (L2.start N vs) H := by
  obtain ⟨a, ns, k, rfl, hs, h0, h1, q⟩ := h
  have g0 := start_good (B := B) (w := none) (F := H) (H := H) (ds := [.rol ns, .int k]) (vs := [.ref a, .int k]) (s := ⟨0, [], 0⟩) (N := N) (Ex.refl H) trivial (reps_cons.mpr ⟨_, _, rfl, rep_rol.mpr ⟨a, rfl, hs⟩, reps_cons.mpr ⟨_, _, rfl, rep_int.mpr rfl, reps_nil.mpr rfl⟩⟩)
  rw [hN] at g0
  obtain ⟨x', ev⟩ := mix_ev (B := B) (ns := ns) (s := ⟨0, [], 0⟩) h0 h1
  have z := (mixP B).ok Wx { nx := tRet (tLst (tCons (tVar 2) (tCons (tCB (rLisL B.K) (tCons (tVar 0) tNil)) (tCons (tC (.int 0)) tNil)))) { nx := fun _ H' => Q .non H', rt := Q }, rt := Q } g0
  have ev' : (mixP B).ev (([D.rol ns, D.int k].map Sl.fr) ++ List.replicate (4 - 2) Sl.no) ⟨0, [], 0⟩ = _ := ev
  rw [show (List.map Sl.fr [D.rol ns, D.int k] ++ List.replicate (4 - [D.rol ns, D.int k].length) Sl.no) = [.fr (.rol ns), .fr (.int k), .no, .no] from rfl, ev] at z
  refine z fun F' H' σ' e g => ?_
  obtain ⟨v2, e2, x2, rfl, r2⟩ := g.sl 2 (.fr (.int (mixF ns k))) rfl
  cases rep_int.mp r2
  obtain ⟨v0, e0, x0, rfl, r0⟩ := g.sl 0 (.fr (.rol ns)) rfl
  obtain ⟨p, rfl, hp⟩ := rep_rol.mp r0
  refine ⟨_, e2, _, e0, p, _, rfl, .inl (ex_l g.fh hp), fun c hc => ?_⟩
  refine ⟨by show 3 ≤ sizeLine; decide, fun hh hhn => ?_⟩
  have nhc : hh ≠ c := fun z => by rw [z, upd_same] at hhn; cases hhn
  have hh1 : H' hh = none := by rw [upd_ne nhc] at hhn; exact hhn
  have back : ∀ b, H' b = none → H b = none := fun b hb => fresh_back (e.trans g.fh) hb
  refine q hh c _ nhc (back hh hh1) (back c hc) upd_same (by rw [upd_ne nhc.symm, upd_same]) fun b o hb => ?_
  have hb' : H' b = some o := g.fh _ _ (e _ _ hb)
  rw [upd_ne (ne_of_none hb' hh1), upd_ne (ne_of_none hb' hc)]
  exact hb'

/-! ### the law's body -/
def spLaw (K : PySem.W.Frag) : Sp := fun vs H Q _ => ∃ (a : Addr) (ns : List Int), vs = [.ref a] ∧ SqL K H a (ns.map V.int) ∧ ns.length ≤ 63 ∧ ∀ H', Q (.bl true) H'
/-- h = mix(script, k); the rest -/
theorem law_body {B : Bs} {N : List Str} {p : XS B} {i : Nat} {k : Int} (hi : 0 < i) (hiN : i < N.length) (h0 : 0 ≤ k) (h1 : k < 2147483647)
    (hev : ∀ ns : List Int, ns.length ≤ 63 → ∃ s', p.ev ((Sl.fr (.rol ns) :: List.replicate (N.length - 1) Sl.no).set i (.fr .hnd)) ⟨mixF ns k, ns, 0⟩ = .ret (.bl true) s') {vs : List V} {H : Hp} {Q : VK} {E : XK} (Wx : WX) (h : spLaw B.K vs H Q E) :
    tSeq (tAsg (tCallS (spMix B.K) (WE Wx) (tCons (tVar 0) (tCons (tC (.int k)) tNil))) (gName i)) (p.ts Wx) { nx := fun _ H' => Q .non H', rt := Q } (L2.start N vs) H := by
  obtain ⟨a, ns, rfl, hs, hn, q⟩ := h
  have g0 := start_good (B := B) (w := none) (F := H) (H := H) (ds := [.rol ns]) (vs := [.ref a]) (s := ⟨0, [], 0⟩) (N := N) (Ex.refl H) trivial (reps_cons.mpr ⟨_, _, rfl, rep_rol.mpr ⟨a, rfl, hs⟩, reps_nil.mpr rfl⟩)
  have e0 : (L2.start N [V.ref a])[0]? = some (some (.ref a)) := rfl
  refine ⟨_, e0, a, ns, k, rfl, hs, h0, h1, fun hd c H' n1 f1 f2 p1 p2 ex => ?_⟩
  obtain ⟨s', ev⟩ := hev ns hn
  have hl : (L2.start N [V.ref a]).length = N.length := by unfold L2.start; simp; omega
  have sth : StAt (some (hd, c)) ⟨mixF ns k, ns, 0⟩ H H' := ⟨n1, f1, f2, p1, p2⟩
  have g1 : Good B (some (hd, c)) ⟨fun _ => none, 0⟩ H H' (L2.start N [V.ref a]) (Sl.fr (.rol ns) :: List.replicate (N.length - 1) Sl.no) ⟨mixF ns k, ns, 0⟩ := by
    refine ⟨ex, sth, fun j t e => ?_, fun x o z => (nomatch z), fun _ _ _ _ _ _ => rfl, fun j m t u x e e' ho _ _ _ => ?_, by rw [hl]; simp; omega, fun cc fs e => ?_⟩
    · cases j with
      | zero => cases e; exact ⟨_, e0, _, rfl, rep_rol.mpr ⟨a, rfl, hs⟩⟩
      | succ j =>
        have e1 : (List.replicate (N.length - 1) Sl.no)[j]? = some t := e
        rw [List.getElem?_replicate] at e1
        split at e1
        · cases e1
          rename_i hj
          exact ⟨_, List.getElem?_eq_getElem (by rw [hl]; omega), trivial⟩
        · cases e1
    · exfalso
      cases j with
      | zero => cases e; cases ho
      | succ j =>
        have e1 : (List.replicate (N.length - 1) Sl.no)[j]? = some t := e
        rw [List.getElem?_replicate] at e1
        split at e1
        · cases e1; cases ho
        · cases e1
    · cases e
  have g2 := g1.set (i := i) (d := .hnd) (v := .ref hd) (rep_hnd.mpr ⟨hd, c, rfl, rfl⟩)
  have z := p.ok Wx { nx := fun _ H' => Q .non H', rt := Q } g2
  rw [ev] at z
  refine z fun v F2 H2 e2 g3 r => ?_
  cases rep_bl.mp r
  exact q H2
end Dv

set_option Elab.async false
set_option linter.all false
set_option maxRecDepth 100000
/-! # The rules that the packages' readings ask for -/
namespace Dv
open PySem PySem.Spec PyProof.Rows L2 Evl

section
variable {B : Bs} {X : Cx}
theorem op_leU : OpR X (compareOp .LtE) (o_le B).r := OpR.or op_le op_le_str
theorem op_ltU : OpR X (compareOp .Lt) (o_lt B).r := OpR.or op_lt op_lt_str
theorem op_addU (hK : B.K = X.K) : OpR X (binaryOp .Add) (o_add B).r := by
  have h1 : OpR X (binaryOp .Add) (o_catT B).r := by
    show OpR X _ (rCatA B.K)
    rw [hK]
    exact op_catA
  exact OpR.or op_add (OpR.or op_add_str (OpR.or op_cat h1))
theorem pi_of {tg e : Expr} {te : TE} (hK : B.K = X.K) (he : PE X e te) : PI X tg e (fun σ H R => iList B.K te σ H R ∨ iTup B.K te σ H R ∨ iStr te σ H R) := by
  refine ⟨fun pins s σ H R I h => ?_⟩
  rw [hK] at h
  rcases h with h | h | h
  · exact (pi_list he).run pins s σ H R I h
  · exact (pi_tup he).run pins s σ H R I h
  · exact (pi_str he).run pins s σ H R I h
theorem call_allU (hK : B.K = X.K) (calm : X.calm = true) : CallR X (.builtin "all") (o_all B).r := by
  show CallR X _ (rAll B.K)
  rw [hK]
  exact cr_all calm
theorem call_anyU (hK : B.K = X.K) (calm : X.calm = true) : CallR X (.builtin "any") (o_any B).r := by
  show CallR X _ (rAny B.K)
  rw [hK]
  exact cr_any calm
theorem call_dicU (hK : B.K = X.K) (calm : X.calm = true) : CallR X (.type "dict") (o_dicT B).r := by
  show CallR X _ (rDicT B.K)
  rw [hK]
  exact call_dicT calm
theorem tkW0 : Takes X W0 := fun u s' ⟨a, Bb, sI, pins, σ, H, cls, d, e, I, nb, up, sky, na, os, ag, w⟩ => w.elim
/-- never reached -/
def XS.nv (B : Bs) : XS B where
  ts := fun _ => tNever
  ev := fun _ _ => .stuck
  ok := fun _ _ _ => trivial
end
end Dv
namespace Dv
open PySem PySem.Spec PyProof.Rows L2 Evl
/-- no test -/
def XT.yes (B : Bs) : XT B where
  tt := fun _ => tYes
  ev := fun _ s => .ret (.bl true) s
  ok := fun {w F H σ Γ s} Wx e st sl => OkT.pure e st
end Dv
namespace Dv
open PySem PySem.Spec PyProof.Rows L2 Evl
theorem conv {X : Cx} {sts : List Stmt} {t t' : TS} (h : PSs X sts t) (e : t = t') : PSs X sts t' := e ▸ h
end Dv
namespace Dv
open PySem PySem.Spec PyProof.Rows L2 Evl
theorem no_hd {P : Str → Gf → Prop} : ∀ c g, Hd.at [] c = some g → P c g := fun c g h => by cases h
theorem call_len0 {B : Bs} {X : Cx} (hK : B.K = X.K) (hr : Room 1 X.A) : CallR X (.builtin "len") (lenR B []) := call_lenU (k := 0) hK hr no_hd
end Dv
namespace Dv
open PySem PySem.Spec PyProof.Rows L2 Evl
section
variable {B : Bs} {P : Program} {w : World} {mg : Str → Option Value} {base : Heap} {j k n : Nat} {m f c : Str} {g : Gf}
theorem hd_at {α : Type} {a : α} {c' : Str} {b : α} (h : (([(c, a)] : List (Str × α)).find? fun h => decide (h.1 = c')).map (·.2) = some b) : c' = c ∧ b = a := by
  rw [List.find?_cons] at h
  by_cases hc : c = c'
  · subst hc
    simp at h
    exact ⟨rfl, h.symm⟩
  · simp [hc] at h
/-- an own method, apart from the place where it is called -/
structure OwnP (B : Bs) (P : Program) (w : World) (mg : Str → Option Value) (base : Heap) (k : Nat) (m : Str) (n : Nat) (c : Str) (g : Gf) : Prop where
  ex : ∃ f fd ps, PySem.W.findIn B.K (.ref (B.ca c)) m = some (some (.ref f)) ∧ PySem.W.isFn B.K (.ref f) = true ∧ PySem.W.fnIn B.K f = true ∧ PySem.W.keepIn B.K (.ref f) = true ∧ Cls B.K (B.ca c) ∧ Binds B.K fd ps [] ∧ ps.length = n ∧ FnOk P w B.K mg base (L2.CX P w) k f fd ps (spD B n g)
theorem OwnP.mono (h : OwnP B P w mg base j m n c g) (hk : j ≤ k) : OwnP B P w mg base k m n c g :=
  let ⟨f, fd, ps, h1, h2, h3, h4, h5, h6, h7, h8⟩ := h.ex; ⟨f, fd, ps, h1, h2, h3, h4, h5, h6, h7, h8.mono hk⟩
theorem OwnP.at {X : Cx} (h : OwnP B X.prog X.w X.mg X.base k m n c g) (hK : B.K = X.K) : OwnM B X k m n c g := by
  obtain ⟨f, fd, ps, h1, h2, h3, h4, h5, h6, h7, h8⟩ := h.ex
  rw [hK] at h1 h2 h3 h4 h5 h6 h8
  exact ⟨f, fd, ps, h1, h2, h3, h4, h5, h6, h7, h8⟩
theorem hd_one {X : Cx} (hK : B.K = X.K) (h : OwnP B X.prog X.w X.mg X.base k m n c g) : ∀ c' g', Hd.at [(c, g)] c' = some g' → OwnM B X k m n c' g' := fun c' g' e => by
  obtain ⟨rfl, rfl⟩ := hd_at e
  exact h.at hK
theorem no_eq {X : Cx} {neg : Bool} : ∀ c g, Hd.at [] c = some g → OwnEq B X k neg c g := fun c g h => by cases h
theorem eq_one {X : Cx} {neg : Bool} (hK : B.K = X.K) (h : OwnP B X.prog X.w X.mg X.base k "__eq__" 2 c g)
    (e : PySem.W.findIn B.K (.ref (B.ca c)) "__ne__" = some (some (.builtin "object.__ne__")) ∧ PySem.W.mroIn B.K (B.ca c) (.type "object") = some true) : ∀ c' g', Hd.at [(c, g)] c' = some g' → OwnEq B X k neg c' g' := fun c' g' q => by
  obtain ⟨rfl, rfl⟩ := hd_at q
  rw [hK] at e
  exact ⟨h.at hK, fun _ => e⟩
/-- a property -/
structure AtP (B : Bs) (P : Program) (w : World) (mg : Str → Option Value) (base : Heap) (k : Nat) (f c : Str) (g : Gf) : Prop where
  cl : Cls B.K (B.ca c)
  ex : ∃ p fa fd ps, PropOf B.K (B.ca c) f p fa ∧ Binds B.K fd ps [] ∧ ps.length = 1 ∧ FnOk P w B.K mg base (L2.CX P w) k fa fd ps (spD B 1 g)
theorem AtP.mono (h : AtP B P w mg base j f c g) (hk : j ≤ k) : AtP B P w mg base k f c g :=
  ⟨h.cl, let ⟨p, fa, fd, ps, h1, h2, h3, h4⟩ := h.ex; ⟨p, fa, fd, ps, h1, h2, h3, h4.mono hk⟩⟩
theorem at_prop {X : Cx} (hK : B.K = X.K) (h : AtP B X.prog X.w X.mg X.base k f c g) : ∀ c' t, Ats.at [(c, .prop g)] c' = some t → AtOk B X k f c' t := fun c' t e => by
  obtain ⟨rfl, rfl⟩ := hd_at e
  obtain ⟨cl, p, fa, fd, ps, h1, h2, h3, h4⟩ := h
  rw [hK] at cl h1 h2 h4
  exact ⟨cl, p, fa, fd, ps, h1, h2, h3, h4⟩
theorem at_propN (h : ∀ ds s c' fs s', g ds s ≠ .exc c' fs s') : ∀ c' g', Ats.at [(c, .prop g)] c' = some (.prop g') → ∀ ds s c2 fs s', g' ds s ≠ .exc c2 fs s' := fun c' g' e => by
  obtain ⟨rfl, e2⟩ := hd_at e
  cases e2
  exact h
theorem at_fld {X : Cx} (hK : B.K = X.K) (h : Cls B.K (B.ca c) ∧ NoAttr B.K (B.ca c) f) : ∀ c' t, Ats.at [(c, .fld)] c' = some t → AtOk B X k f c' t := fun c' t e => by
  obtain ⟨rfl, rfl⟩ := hd_at e
  rw [hK] at h
  exact h
theorem at_fldN : ∀ c' g', Ats.at [(c, .fld)] c' = some (.prop g') → ∀ ds s c2 fs s', g' ds s ≠ .exc c2 fs s' := fun c' g' e => by
  obtain ⟨rfl, e2⟩ := hd_at e
  cases e2
theorem call_lenD_ {X : Cx} (hK : B.K = X.K) : CallR X (.builtin "len") (o_len B).r := by
  have h : CallR X (.builtin "len") (fun xs H Q => ∃ x n, xs = [x] ∧ LenV X.K x H n ∧ Q (.int n) H) := call_len
  rw [← hK] at h
  exact h
instance (i j : Int) : Decidable (CPow i j) := by unfold CPow; infer_instance
abbrev o_powI (B : Bs) : O2 B := .intC B CPow fun i j => i ^ j.toNat
end
end Dv
namespace Dv
open PySem PySem.Spec PyProof.Rows L2 Evl
/-- an error's __init__ that stores its one argument -/
theorem oex1_body {K : PySem.W.Frag} {C : Addr} {f : Str} {N : List Str} (hN : N.length = 2) (T : OexC K C) (hf : PySem.W.findIn K (.ref C) f = some none) {vs : List V} {H : Hp} {Q : VK} {E : XK} (h : spX C [f] vs H Q E) :
    (tOst K f (tVar 0) (tVar 1)) { nx := fun _ H' => Q .non H', rt := Q } (L2.start N vs) H := by
  obtain ⟨a, ws, rfl, hl, ha, q⟩ := h
  match ws, hl with
  | [y], _ =>
    have e0 : (L2.start N [.ref a, y])[0]? = some (some (.ref a)) := rfl
    have e1 : (L2.start N [.ref a, y])[1]? = some (some y) := rfl
    exact ⟨y, e1, .ref a, e0, a, C, rfl, T, hf, .inl ⟨ha, fun d hd hne => q d hd hne⟩⟩
end Dv
namespace Dv
open PySem PySem.Spec PyProof.Rows L2 Evl
theorem passF {X : Cx} : Passes (L2.CX X.prog X.w) X (fun _ _ _ => False) := by
  intro _ _ _ _ _ _ _ h
  exact (CXnever h).elim
end Dv
namespace Dv
open PySem PySem.Spec PyProof.Rows L2 Evl
/-- x, y = a, b -/
def XS.par {B : Bs} (i j : Nat) (p q : XE B) : XS B where
  ts := fun Wx => tPar i j (tas Wx [p, q])
  ev := fun Γ s => (p.ev Γ s).out Γ fun d s1 => (q.ev Γ s1).out Γ fun e s2 => .nxt ((Γ.set i (.fr d)).set j (.fr e)) s2
  ok := fun {w Z F H σ Γ s} Wx D' g => by
    refine (p.ok Wx g.fh g.st g.sl).stm g (u := fun v H1 => q.te Wx σ H1 fun u H2 => ∃ v1 u1, [v, u] = [v1, u1] ∧ D'.nx ((σ.set i (some v1)).set j (some u1)) H2) fun d s1 v F1 H1 _ a g1 r => ?_
    refine (q.ok Wx g1.fh g1.st g1.sl).stm g1 (u := fun u H2 => ∃ v1 u1, [v, u] = [v1, u1] ∧ D'.nx ((σ.set i (some v1)).set j (some u1)) H2) fun e s2 u F2 H2 _ a2 g2 r2 => ?_
    exact fun k => ⟨v, u, rfl, k F2 H2 _ (Ex.refl F2) ((g2.set (r.mono a2.ff)).set r2)⟩
/-- a + b of two lists, that is changed later -/
def XN.cat {B : Bs} (p q : XE B) : XN B where
  te := fun Wx => tOp (o_add B).r (p.te Wx) (q.te Wx)
  ev := fun Γ s => (p.ev Γ s).bind fun d s1 => (q.ev Γ s1).bind fun e s2 => match d with
    | .lst xs => match e with
      | .lst ys => if xs.length + ys.length ≤ 100000 then .ret (.lst (xs ++ ys)) s2 else .stuck
      | _ => .stuck
    | _ => .stuck
  ok := fun {w F H σ Γ s} Wx e st sl => by
    refine OkP.seq (p.ok Wx e st sl) (u := fun x H1 Q => q.te Wx σ H1 fun y H2 => (o_add B).r x y H2 Q) fun d s1 v F1 H1 _ a1 st1 r1 => ?_
    refine OkP.seq (q.ok Wx a1.fh st1 (sl.step a1)) (u := fun y H2 Q => (o_add B).r v y H2 Q) fun d2 s2 v2 F2 H2 _ a2 st2 r2 => ?_
    cases d with
    | lst xs =>
      cases d2 with
      | lst ys =>
        show OkP B w F2 H2 σ Wx _ _ (if xs.length + ys.length ≤ 100000 then .ret (.lst (xs ++ ys)) s2 else .stuck)
        by_cases hc : xs.length + ys.length ≤ 100000
        · rw [if_pos hc]
          obtain ⟨p1, vs, rfl, h1, h2⟩ := rep_lst.mp (r1.mono a2.ff)
          obtain ⟨p2, us, rfl, h3, h4⟩ := rep_lst.mp r2
          exact OkP.imp (NewL.mk e (a1.trans a2) st2 (h2.append h4)) fun Q k => .inr (.inr (.inl ⟨p1, p2, vs, us, rfl, rfl, a2.fh _ _ h1, a2.fh _ _ h3, sz_of (by rw [h2.length, h4.length]; exact hc), k⟩))
        · rw [if_neg hc]; trivial
      | _ => trivial
    | _ => trivial
end Dv
namespace Dv
open PySem PySem.Spec PyProof.Rows L2 Evl
theorem fn_none {B : Bs} {P : Program} {w : World} {K : PySem.W.Frag} {mg : Str → Option Value} {base : Heap} {CX : CXT} {k n : Nat} {f : Addr} {fd : FuncData} {ps : List Str} : FnOk P w K mg base CX k f fd ps (spD B n fun _ _ => .stuck) :=
  ⟨fun vs H Q E h => by obtain ⟨_, _, _, _, _, _, _, _, z⟩ := h; exact z.elim, fun A outer s H args us vs Q E hr he hb hv hs => by obtain ⟨_, _, _, _, _, _, _, _, z⟩ := hs; exact z.elim⟩
end Dv
namespace Dv
open PySem PySem.Spec PyProof.Rows L2 Evl
/-- never raises -/
def NoX {B : Bs} (p : XE B) : Prop := ∀ Γ s c fs s', p.ev Γ s ≠ .exc c fs s'
theorem noX_var {B : Bs} {i : Nat} : NoX (XE.var B i) := fun Γ s c fs s' h => by
  have h' : Sl.get Γ[i]? s = .exc c fs s' := h
  unfold Sl.get at h'
  split at h'
  · cases h'
  · cases h'
theorem opt_no {o : Option D} {s : HS} {c : Str} {fs : List (Str × D)} {s' : HS} : Res.opt o s ≠ .exc c fs s' := fun h => by
  cases o with
  | none => cases h
  | some d => cases h
theorem noX_at {B : Bs} {c0 f : Str} {p : XE B} (hp : NoX p) : NoX (XE.at [(c0, .fld)] f p) := fun Γ s c fs s' h => by
  have h' : ((p.ev Γ s).bind fun d s1 => atE [(c0, .fld)] f d s1) = .exc c fs s' := h
  cases hr : p.ev Γ s with
  | exc c1 f1 s1 => exact hp _ _ _ _ _ hr
  | stuck => rw [hr] at h'; cases h'
  | ret d s1 =>
    rw [hr] at h'
    have h2 : atE [(c0, .fld)] f d s1 = .exc c fs s' := h'
    unfold atE at h2
    split at h2
    · split at h2
      · exact opt_no h2
      · rename_i hq
        obtain ⟨_, hq⟩ := hd_at hq
        cases hq
      · cases h2
    · cases h2
theorem noX_blt {B : Bs} {o : OC B} {p : XE B} (hp : NoX p) : NoX (XE.blt o [p]) := fun Γ s c fs s' h => by
  have h' : ((p.ev Γ s).bind fun d s1 => Res.opt (o.f [d]) s1) = .exc c fs s' := h
  cases hr : p.ev Γ s with
  | exc c1 f1 s1 => exact hp _ _ _ _ _ hr
  | stuck => rw [hr] at h'; cases h'
  | ret d s1 => rw [hr] at h'; exact opt_no h'
theorem noX_ret {B : Bs} {p : XE B} {m : Nat} (hp : NoX p) : ∀ ds s c fs s', (XS.ret p).fn m ds s ≠ .exc c fs s' := fun ds s c fs s' h => by
  have h' : ((p.ev (ds.map Sl.fr ++ List.replicate (m - ds.length) Sl.no) s).out (ds.map Sl.fr ++ List.replicate (m - ds.length) Sl.no) fun d s1 => .ret d s1).res = .exc c fs s' := h
  cases hr : p.ev (ds.map Sl.fr ++ List.replicate (m - ds.length) Sl.no) s with
  | exc c1 f1 s1 => exact hp _ _ _ _ _ hr
  | stuck => rw [hr] at h'; cases h'
  | ret d s1 => rw [hr] at h'; cases h'
end Dv

set_option Elab.async false
set_option linter.all false
set_option maxRecDepth 100000
/-! # What a package's plain function answers, by its parts -/
namespace Dv
open PySem PySem.Spec PyProof.Rows L2 Evl
section
variable {B : Bs} {Γ Γ1 : Gm} {s s1 s2 s3 : HS} {d e z : D} {p q r : XE B} {t u : XT B} {a b : XS B} {i j : Nat} {c : Str} {fs : List (Str × D)}
theorem ev_op2 {o : O2 B} (h1 : p.ev Γ s = .ret d s1) (h2 : q.ev Γ s1 = .ret e s2) (h : o.f d e = some z) : (XE.op2 o p q).ev Γ s = .ret z s2 := by
  show (p.ev Γ s).bind _ = _
  rw [h1]
  show (q.ev Γ s1).bind _ = _
  rw [h2]
  show Res.opt (o.f d e) s2 = _
  rw [h]
  exact rfl
theorem ev_blt1 {o : OC B} (h1 : p.ev Γ s = .ret d s1) (h : o.f [d] = some z) : (XE.blt o [p]).ev Γ s = .ret z s1 := by
  show (p.ev Γ s).bind _ = _
  rw [h1]
  show Res.opt (o.f [d]) s1 = _
  rw [h]
  exact rfl
theorem ev_blt2 {o : OC B} (h1 : p.ev Γ s = .ret d s1) (h2 : q.ev Γ s1 = .ret e s2) (h : o.f [d, e] = some z) : (XE.blt o [p, q]).ev Γ s = .ret z s2 := by
  show (p.ev Γ s).bind _ = _
  rw [h1]
  show (q.ev Γ s1).bind _ = _
  rw [h2]
  show Res.opt (o.f [d, e]) s2 = _
  rw [h]
  exact rfl
theorem ev_var (h : Γ[i]? = some (.fr d)) : (XE.var B i).ev Γ s = .ret d s := by
  show Sl.get Γ[i]? s = _
  rw [h]
  exact rfl
theorem ev_ixL {ds : List D} {k : Int} (h1 : p.ev Γ s = .ret (.lst ds) s1) (h2 : q.ev Γ s1 = .ret (.int k) s2) (h : atI ds k = some z) {hs : Hd} : (XE.ix hs p q).ev Γ s = .ret z s2 := by
  show (p.ev Γ s).bind _ = _
  rw [h1]
  show (q.ev Γ s1).bind _ = _
  rw [h2]
  show Res.opt (atI ds k) s2 = _
  rw [h]
  exact rfl
theorem ev_ixT {ds : List D} {pl : Bool} {k : Int} (h1 : p.ev Γ s = .ret (.tup pl ds) s1) (h2 : q.ev Γ s1 = .ret (.int k) s2) (h : atI ds k = some z) {hs : Hd} : (XE.ix hs p q).ev Γ s = .ret z s2 := by
  show (p.ev Γ s).bind _ = _
  rw [h1]
  show (q.ev Γ s1).bind _ = _
  rw [h2]
  show Res.opt (atI ds k) s2 = _
  rw [h]
  exact rfl
theorem ev_set (h : p.ev Γ s = .ret d s1) : (XS.set i p).ev Γ s = .nxt (Γ.set i (.fr d)) s1 := by
  show (p.ev Γ s).out Γ _ = _
  rw [h]
  exact rfl
theorem ev_seq (h : a.ev Γ s = .nxt Γ1 s1) : (XS.seq a b).ev Γ s = b.ev Γ1 s1 := by
  show (a.ev Γ s).bind b.ev = _
  rw [h]
  exact rfl
theorem ev_ret (h : p.ev Γ s = .ret d s1) : (XS.ret p).ev Γ s = .ret d s1 := by
  show (p.ev Γ s).out Γ _ = _
  rw [h]
  exact rfl
theorem ev_ofE {k : Bool} (h : p.ev Γ s = .ret (.bl k) s1) : (XT.ofE p).ev Γ s = .ret (.bl k) s1 := by
  show (p.ev Γ s).tst = _
  rw [h]
  exact rfl
theorem ev_iteT (h : t.ev Γ s = .ret (.bl true) s1) : (XS.ite t a b).ev Γ s = a.ev Γ s1 := by
  show (t.ev Γ s).outB Γ _ = _
  rw [h]
  show (if true = true then a.ev Γ s1 else b.ev Γ s1) = _
  rw [if_pos rfl]
theorem ev_iteF (h : t.ev Γ s = .ret (.bl false) s1) : (XS.ite t a b).ev Γ s = b.ev Γ s1 := by
  show (t.ev Γ s).outB Γ _ = _
  rw [h]
  show (if false = true then a.ev Γ s1 else b.ev Γ s1) = _
  rw [if_neg Bool.false_ne_true]
theorem ev_h0 (h : isHnd Γ i = true) : (XE.h0 B i).ev Γ s = .ret (.int s.st) s := if_pos h
theorem ev_h2 (h : isHnd Γ i = true) : (XE.h2 B i).ev Γ s = .ret (.int s.ix) s := if_pos h
theorem ev_hlen (h : isHnd Γ i = true) : (XE.hlen B i).ev Γ s = .ret (.int (s.cells.length : Nat)) s := if_pos h
theorem ev_hcat (h : isHnd Γ i = true) (hl : s.cells.length + 1 ≤ 100000) : (XE.hcat B i).ev Γ s = .ret (.lst ((s.cells ++ [0]).map D.int)) s := if_pos ⟨h, hl⟩
theorem ev_sh0 {n : Int} (h : isHnd Γ i = true) (h1 : p.ev Γ s = .ret (.int n) s1) : (XS.h0 i p).ev Γ s = .nxt Γ { s1 with st := n } := by
  show (p.ev Γ s).out Γ _ = _
  rw [h1]
  exact if_pos h
theorem ev_sh2 {n : Int} (h : isHnd Γ i = true) (h1 : p.ev Γ s = .ret (.int n) s1) : (XS.h2 i p).ev Γ s = .nxt Γ { s1 with ix := n } := by
  show (p.ev Γ s).out Γ _ = _
  rw [h1]
  exact if_pos h
theorem ev_hc {n k : Int} {m : Nat} (h : isHnd Γ i = true) (h1 : p.ev Γ s = .ret (.int n) s1) (h2 : q.ev Γ s1 = .ret (.int k) s2) (h3 : ixN s2.cells.length k = some m) : (XS.hc i q p).ev Γ s = .nxt Γ { s2 with cells := s2.cells.set m n } := by
  show (if isHnd Γ i = true then _ else _) = _
  rw [if_pos h]
  show (p.ev Γ s).out Γ _ = _
  rw [h1]
  show (q.ev Γ s1).out Γ _ = _
  rw [h2]
  show (if isHnd Γ i = true then match ixN s2.cells.length k with
    | some j => Out.nxt Γ { s2 with cells := s2.cells.set j n }
    | none => .stuck
  else .stuck) = _
  rw [if_pos h, h3]
end
end Dv
namespace Dv
open PySem PySem.Spec PyProof.Rows L2 Evl
section
variable {B : Bs} {Γ Γ1 : Gm} {s s1 s2 s3 : HS} {d e z : D} {p q r : XE B} {t u : XT B} {a b : XS B} {i j : Nat} {c : Str} {fs : List (Str × D)}
theorem ev_call1 {g : Gf} {R : Res} {h : [p].length = 1} (h1 : p.ev Γ s = .ret d s1) (hg : g [d] s1 = R) : (XE.call 1 g [p] h).ev Γ s = R := by
  show (p.ev Γ s).bind _ = _
  rw [h1]
  exact hg
theorem ev_call2 {g : Gf} {R : Res} {h : [p, q].length = 2} (h1 : p.ev Γ s = .ret d s1) (h2 : q.ev Γ s1 = .ret e s2) (hg : g [d, e] s2 = R) : (XE.call 2 g [p, q] h).ev Γ s = R := by
  show (p.ev Γ s).bind _ = _
  rw [h1]
  show (q.ev Γ s1).bind _ = _
  rw [h2]
  exact hg
theorem ev_lenL {hs : Hd} {ds : List D} (h1 : p.ev Γ s = .ret (.lst ds) s1) : (XE.len hs p).ev Γ s = .ret (.int (ds.length : Nat)) s1 := by
  show (p.ev Γ s).bind _ = _
  rw [h1]
  exact rfl
theorem ev_lenT {hs : Hd} {ds : List D} {pl : Bool} (h1 : p.ev Γ s = .ret (.tup pl ds) s1) : (XE.len hs p).ev Γ s = .ret (.int (ds.length : Nat)) s1 := by
  show (p.ev Γ s).bind _ = _
  rw [h1]
  exact rfl
theorem ev_viewT {k : Bool} (h : t.ev (frzA Γ) s = .ret (.bl k) s1) : (XT.view t).ev Γ s = .ret (.bl k) s1 := by
  show (match t.ev (frzA Γ) s with
    | .ret (.bl b) s1 => Res.ret (.bl b) s1
    | _ => .stuck) = _
  rw [h]
theorem ev_viewE (h : p.ev (frzA Γ) s = .ret d s1) (hs : scal d = true) : (XE.view p).ev Γ s = .ret d s1 := by
  show (match p.ev (frzA Γ) s with
    | .ret d s1 => if scal d = true then Res.ret d s1 else .stuck
    | _ => .stuck) = _
  rw [h]
  exact if_pos hs
theorem ev_app {ds : List D} (hi : Γ[i]? = some (.lo ds)) (hl : ds.length < 100000) (h : p.ev Γ s = .ret d s1) : (XS.app i p).ev Γ s = .nxt (Γ.set i (.lo (ds ++ [d]))) s1 := by
  show (match (Γ[i]? : Option Sl) with
    | some (.lo ds) => if ds.length < 100000 then (p.ev Γ s).out Γ fun d s1 => Out.nxt (Γ.set i (.lo (ds ++ [d]))) s1 else .stuck
    | _ => .stuck) = _
  rw [hi]
  show (if ds.length < 100000 then (p.ev Γ s).out Γ fun d s1 => Out.nxt (Γ.set i (.lo (ds ++ [d]))) s1 else .stuck) = _
  rw [if_pos hl, h]
  exact rfl
theorem ev_pop {ds ds' : List D} {k : Int} (hi : Γ[i]? = some (.lo ds)) (h : p.ev Γ s = .ret (.int k) s1) (hp : popAtD ds k = some ds') : (XS.popAt i p).ev Γ s = .nxt (Γ.set i (.lo ds')) s1 := by
  unfold XS.popAt
  dsimp only
  rw [hi]
  dsimp only
  rw [h]
  unfold Res.out
  dsimp only
  rw [hp]
theorem ev_frz {P : XS B} {o : Out} (h : P.ev (frzG Γ i) s = o) : (XS.frz i P).ev Γ s = o := h
end
end Dv
namespace Dv
open PySem PySem.Spec PyProof.Rows L2 Evl
section
variable {B : Bs} {Γ Γ1 Γ2 : Gm} {s s1 s2 s3 : HS} {d e z : D} {p q r : XE B} {n : Nat}
theorem while_go {t : Gm → HS → Res} {b : Gm → HS → Out} (h1 : t Γ s = .ret (.bl true) s1) (h2 : b Γ s1 = .nxt Γ2 s2) : whileL t b (n + 1) Γ s = whileL t b n Γ2 s2 := by
  show (t Γ s).outB Γ (fun c s1 => if c = true then (b Γ s1).turn (whileL t b n) else .nxt Γ s1) = _
  rw [h1]
  show (if true = true then (b Γ s1).turn (whileL t b n) else .nxt Γ s1) = _
  rw [if_pos rfl, h2]
  exact rfl
theorem while_end {t : Gm → HS → Res} {b : Gm → HS → Out} (h1 : t Γ s = .ret (.bl false) s1) : whileL t b (n + 1) Γ s = .nxt Γ s1 := by
  show (t Γ s).outB Γ (fun c s1 => if c = true then (b Γ s1).turn (whileL t b n) else .nxt Γ s1) = _
  rw [h1]
  exact rfl
theorem for_cons {g : XG B} {b : Gm → HS → Out} {ds : List D} {l : List (Nat × D)} (h1 : g.as d = some l) (h2 : b (setGm Γ l) s = .nxt Γ2 s2) : forL g b (d :: ds) Γ s = forL g b ds Γ2 s2 := by
  show (match g.as d with
    | none => Out.stuck
    | some l => (b (setGm Γ l) s).turn (forL g b ds)) = _
  rw [h1]
  show (b (setGm Γ l) s).turn (forL g b ds) = _
  rw [h2]
  exact rfl
theorem for_nil {g : XG B} {b : Gm → HS → Out} : forL g b [] Γ s = .nxt Γ s := rfl
theorem ev_for {it : XI B} {g : XG B} {b : XS B} {ds : List D} (h : it.ev Γ s = .ret (.lst ds) s1) : (XS.for it g b).ev Γ s = forL g b.ev ds Γ s1 := by
  show (it.ev Γ s).outL Γ _ = _
  rw [h]
  exact rfl
theorem ev_tup2 {h : [p, q].length ≤ 100000} (h1 : p.ev Γ s = .ret d s1) (h2 : q.ev Γ s1 = .ret e s2) : (XE.tup [p, q] h).ev Γ s = .ret (.tup true [d, e]) s2 := by
  show (p.ev Γ s).bind _ = _
  rw [h1]
  show (q.ev Γ s1).bind _ = _
  rw [h2]
  exact rfl
end
end Dv
namespace Dv
open PySem PySem.Spec PyProof.Rows L2 Evl
section
variable {B : Bs} {Γ Γ1 Γ2 : Gm} {s s1 s2 s3 : HS} {d e z : D} {p q r : XE B} {t u : XT B} {n : Nat} {R : Res}
theorem ev_isi {f : Kd → Option Bool} (h1 : p.ev Γ s = .ret d s1) (h2 : isiE f d s1 = R) : (XE.isi f p).ev Γ s = R := by
  show (p.ev Γ s).bind _ = _
  rw [h1]
  exact h2
theorem ev_isiT {f : Kd → Option Bool} (h1 : p.ev Γ s = .ret d s1) (h2 : isiE f d s1 = R) : (XE.isiT f p).ev Γ s = R := by
  show (p.ev Γ s).bind _ = _
  rw [h1]
  exact h2
theorem ev_eq {neg : Bool} {hs : Hd} (h1 : p.ev Γ s = .ret d s1) (h2 : q.ev Γ s1 = .ret e s2) (h3 : eqE neg hs d e s2 = R) : (XE.eq neg hs p q).ev Γ s = R := by
  show (p.ev Γ s).bind _ = _
  rw [h1]
  show (q.ev Γ s1).bind _ = _
  rw [h2]
  exact h3
theorem ev_orT (h1 : t.ev Γ s = .ret (.bl true) s1) : (XT.or t u).ev Γ s = .ret (.bl true) s1 := by
  show (t.ev Γ s).bindB _ = _
  rw [h1]
  exact rfl
theorem ev_orF (h1 : t.ev Γ s = .ret (.bl false) s1) (h2 : u.ev Γ s1 = R) : (XT.or t u).ev Γ s = R := by
  show (t.ev Γ s).bindB _ = _
  rw [h1]
  exact h2
theorem ev_notT {k : Bool} (h1 : t.ev Γ s = .ret (.bl k) s1) : (XT.not t).ev Γ s = .ret (.bl (!k)) s1 := by
  show (t.ev Γ s).bindB _ = _
  rw [h1]
  exact rfl
theorem ev_andE (h1 : p.ev Γ s = .ret (.bl true) s1) (h2 : q.ev Γ s1 = R) : (XE.and p q).ev Γ s = R := by
  show (p.ev Γ s).bindB _ = _
  rw [h1]
  exact h2
theorem ev_lc {it : XI B} {g : XG B} {x : XE B} {vs : List Nat} {ds zs : List D} (h1 : it.ev Γ s = .ret (.lst ds) s1) (hl : ds.length ≤ 100000) (h2 : lcL g.as t.ev x.ev vs (wipeG Γ vs) ds s1 = some (zs, s2)) : (XE.ofN (XN.lc it g t x vs)).ev Γ s = .ret (.lst zs) s2 := by
  show (it.ev Γ s).bindL _ = _
  rw [h1]
  show (if ds.length ≤ 100000 then lcK (lcL g.as t.ev x.ev vs (wipeG Γ vs) ds s1) else .stuck) = _
  rw [if_pos hl, h2]
  exact rfl
theorem ev_range1 {k : Int} (h1 : p.ev Γ s = .ret (.int k) s1) (h2 : -(2 ^ 62) ≤ k ∧ k < 2 ^ 62) : (XI.range1 p).ev Γ s = .ret (.lst (rangeD 0 k)) s1 := by
  show (p.ev Γ s).bind _ = _
  rw [h1]
  exact if_pos h2
theorem ev_of {ds : List D} (h1 : p.ev Γ s = .ret d s1) (h2 : itemsOf d = some ds) : (XI.of p).ev Γ s = .ret (.lst ds) s1 := by
  show (p.ev Γ s).bind _ = _
  rw [h1]
  show (match itemsOf d with
    | some ds => Res.ret (.lst ds) s1
    | none => .stuck) = _
  rw [h2]
theorem lc_skip {as : D → Option (List (Nat × D))} {tt : Gm → HS → Res} {ee : Gm → HS → Res} {vs : List Nat} {ds : List D} {l : List (Nat × D)} (h1 : as d = some l) (h2 : l.all (fun p => vs.contains p.1) = true) (h3 : tt (setGm Γ l) s = .ret (.bl false) s1) :
    lcL as tt ee vs Γ (d :: ds) s = lcL as tt ee vs Γ ds s1 := by
  rw [lcL, h1]
  dsimp only
  rw [if_pos h2, h3]
theorem lc_put {as : D → Option (List (Nat × D))} {tt : Gm → HS → Res} {ee : Gm → HS → Res} {vs : List Nat} {ds zs : List D} {l : List (Nat × D)} (h1 : as d = some l) (h2 : l.all (fun p => vs.contains p.1) = true) (h3 : tt (setGm Γ l) s = .ret (.bl true) s1) (h4 : ee (setGm Γ l) s1 = .ret z s2)
    (h5 : lcL as tt ee vs Γ ds s2 = some (zs, s3)) : lcL as tt ee vs Γ (d :: ds) s = some (z :: zs, s3) := by
  rw [lcL, h1]
  dsimp only
  rw [if_pos h2, h3]
  dsimp only
  rw [h4]
  dsimp only
  rw [h5]
end
end Dv

set_option Elab.async false
set_option linter.all false
set_option maxRecDepth 100000

namespace K1
open PySem PySem.Spec PyProof.Rows L2 Evl Dv
def top (i : Nat) : Stmt := PySem.Challenge.pw_lostdesk_k01_catalogs_refused.main.body.getD i (.Pass ⟨0, 0, 0, 0⟩)
def isi_Catalog : Kd → Option Bool
  | .ins c => if c = "Catalog" then some true else none
  | _ => some false
def isi_dict : Kd → Option Bool
  | .dic => some true
  | .ins _ => none
  | _ => some false
def isi_list : Kd → Option Bool
  | .lst => some true
  | .ins _ => none
  | _ => some false
def isi_tuple_list : Kd → Option Bool
  | .tup => some true
  | .lst => some true
  | .ins _ => none
  | _ => some false
def isi_str : Kd → Option Bool
  | .str => some true
  | .ins _ => none
  | _ => some false
def isi_int : Kd → Option Bool
  | .int => some true
  | .bl => some true
  | .ins _ => none
  | _ => some false
def isi_bool : Kd → Option Bool
  | .bl => some true
  | .ins _ => none
  | _ => some false
variable {P : Program} {w : World} {mg : Str → Option Value} {base : Heap}
abbrev N_is_word_ : List Str := ["text", "letter"]
def p_is_word (B : Bs) : XS B := (.ret ((.and (.chain (o_le B) (o_le B) (.int B 1) (.len [] (.var B 0)) (.int B 8)) (.blt (o_all B) [(.ofN (.lc (.of (.var B 0)) (.name B 1) (.yes B) (.chain (o_le B) (o_le B) (.str B "a") (.var B 1) (.str B "z")) [1]))]))))
def g_is_word (B : Bs) : Gf := (p_is_word B).fn 2
theorem sc_is_word : FnScope N_is_word_ ["text"] (defScope (top 9)) := ⟨rfl, rfl, rfl, by decide +kernel, rfl, by decide +kernel, by decide +kernel⟩
theorem ok_is_word {B : Bs} {f : Addr} {fd : FuncData} {t_MOST_LETTERS : Tok} (Fn : Fun B.K "is_word" "is_word" (top 9) f fd) (m_len : mg "len" = none) (m_MOST_LETTERS : mg "MOST_LETTERS" = some (.int 8 t_MOST_LETTERS)) (m_all : mg "all" = none) :
    FnOk P w B.K mg base (L2.CX P w) 3 f fd ["text"] (spD B 1 (g_is_word B)) := by
  refine fn_ok Fn sc_is_word (fun ds s _ => rfl) fun cdv A outer s H E hr => ?_
  exact conv (pss_one (ps_ret ((pe_and (pe_chain (op_leU (B := B)) (op_leU (B := B)) (pe_int) (pe_callB (call_lenU (B := B) (hs := []) (k := 1) rfl hr no_hd) (by rfl) m_len (by decide +kernel) (pa_cons (pv 0) pa_nil)) (pe_glob (v := .int 8) (by rfl) m_MOST_LETTERS ⟨_, rfl⟩)) (pe_one (pe_callB (call_allU (B := B) rfl rfl) (by rfl) m_all (by decide +kernel) (pa_cons (pe_lc (own := [("letter", 1)]) rfl sc_is_word.nd (pi_of (B := B) rfl (pv 0)) (blkOk_by (N := N_is_word_) (sc := defScope (top 9)) (by decide +kernel)) (fun _ _ _ _ _ => (pg_name (i := 1) sc_is_word.nd rfl (Or.inl rfl))) (fun _ _ _ _ _ => pts_nil) (fun _ _ _ _ _ => (pe_chain (op_leU (B := B)) (op_leU (B := B)) (pe_str) (pv 1) (pe_str)))) pa_nil))))))) rfl
abbrev N_ascends_ : List Str := ["words", "one", "other"]
def p_ascends (B : Bs) : XS B := (.ret (.blt (o_all B) [(.ofN (.lc (.zip (.var B 0) (.sli (.var B 0) (some (.int B 1)) none)) (.tup [(.name B 1), (.name B 2)]) (.yes B) (.op2 (o_lt B) (.var B 1) (.var B 2)) [1, 2]))]))
def g_ascends (B : Bs) : Gf := (p_ascends B).fn 3
theorem sc_ascends : FnScope N_ascends_ ["words"] (defScope (top 10)) := ⟨rfl, rfl, rfl, by decide +kernel, rfl, by decide +kernel, by decide +kernel⟩
theorem ok_ascends {B : Bs} {f : Addr} {fd : FuncData}  (Fn : Fun B.K "ascends" "ascends" (top 10) f fd) (m_zip : mg "zip" = none) (m_all : mg "all" = none) :
    FnOk P w B.K mg base (L2.CX P w) 3 f fd ["words"] (spD B 1 (g_ascends B)) := by
  refine fn_ok Fn sc_ascends (fun ds s _ => rfl) fun cdv A outer s H E hr => ?_
  exact conv (pss_one (ps_ret (pe_callB (call_allU (B := B) rfl rfl) (by rfl) m_all (by decide +kernel) (pa_cons (pe_lc (own := [("one", 1), ("other", 2)]) rfl sc_ascends.nd (RZ.pi_zipA (by rfl) m_zip (pa_cons (pv 0) (pa_cons (pe_slice (sl_D (B := B) rfl) (pv 0) (po_some (pe_int)) po_none) pa_nil))) (blkOk_by (N := N_ascends_) (sc := defScope (top 10)) (by decide +kernel)) (fun _ _ _ _ _ => (pg_tup rfl (pgs_cons (pg_name (i := 1) sc_ascends.nd rfl (Or.inl rfl)) (pgs_cons (pg_name (i := 2) sc_ascends.nd rfl (Or.inl rfl)) pgs_nil)))) (fun _ _ _ _ _ => pts_nil) (fun _ _ _ _ _ => (pe_cmpR (op_ltU (B := B)) (pv 1) (pv 2) (nomark _)))) pa_nil)))) rfl
abbrev N_is_feature_ : List Str := ["name", "values", "value"]
def p_is_feature (B : Bs) : XS B := (.seq (.ite (.not (.ofE (.chain (o_le B) (o_le B) (.int B 2) (.len [] (.var B 1)) (.int B 8)))) (.ret (.bl B false)) (.pass B)) (.ret ((.and (.call 1 (g_is_word B) [(.var B 0)] rfl) (.and (.call 1 (g_ascends B) [(.var B 1)] rfl) (.blt (o_all B) [(.ofN (.lc (.of (.var B 1)) (.name B 2) (.yes B) (.call 1 (g_is_word B) [(.var B 2)] rfl) [2]))]))))))
def g_is_feature (B : Bs) : Gf := (p_is_feature B).fn 3
theorem sc_is_feature : FnScope N_is_feature_ ["name", "values"] (defScope (top 11)) := ⟨rfl, rfl, rfl, by decide +kernel, rfl, by decide +kernel, by decide +kernel⟩
theorem ok_is_feature {B : Bs} {f : Addr} {fd : FuncData} {a_ascends : Addr} {fd_ascends : FuncData} {a_is_word : Addr} {fd_is_word : FuncData} {t_FEWEST_VALUES : Tok} {t_MOST_VALUES : Tok} (Fn : Fun B.K "is_feature" "is_feature" (top 11) f fd) (m_FEWEST_VALUES : mg "FEWEST_VALUES" = some (.int 2 t_FEWEST_VALUES)) (m_len : mg "len" = none) (m_MOST_VALUES : mg "MOST_VALUES" = some (.int 8 t_MOST_VALUES)) (m_all : mg "all" = none) (F_ascends : FnOk P w B.K mg base (L2.CX P w) 3 a_ascends fd_ascends ["words"] (spD B 1 (g_ascends B))) (m_ascends : mg "ascends" = some (.ref a_ascends)) (k_ascends : PySem.W.keepIn B.K (.ref a_ascends) = true) (b_ascends : Binds B.K fd_ascends ["words"] []) (F_is_word : FnOk P w B.K mg base (L2.CX P w) 3 a_is_word fd_is_word ["text"] (spD B 1 (g_is_word B))) (m_is_word : mg "is_word" = some (.ref a_is_word)) (k_is_word : PySem.W.keepIn B.K (.ref a_is_word) = true) (b_is_word : Binds B.K fd_is_word ["text"] []) :
    FnOk P w B.K mg base (L2.CX P w) 5 f fd ["name", "values"] (spD B 2 (g_is_feature B)) := by
  refine fn_ok Fn sc_is_feature (fun ds s _ => rfl) fun cdv A outer s H E hr => ?_
  exact conv (pss_cons (ps_if (pt_not (pt_chain (op_leU (B := B)) (op_leU (B := B)) (pe_glob (v := .int 2) (by rfl) m_FEWEST_VALUES ⟨_, rfl⟩) (pe_callB (call_lenU (B := B) (hs := []) (k := 3) rfl hr no_hd) (by rfl) m_len (by decide +kernel) (pa_cons (pv 1) pa_nil)) (pe_glob (v := .int 8) (by rfl) m_MOST_VALUES ⟨_, rfl⟩))) (pss_one (ps_ret (pe_bl))) pss_nil) (pss_one (ps_ret ((pe_and (pe_callS (F_is_word.mono (by decide)) hr (by rfl) m_is_word k_is_word b_is_word (passAt (takes_of rfl rfl rfl rfl)) (pa_cons (pv 0) pa_nil)) (pe_and (pe_callS (F_ascends.mono (by decide)) hr (by rfl) m_ascends k_ascends b_ascends (passAt (takes_of rfl rfl rfl rfl)) (pa_cons (pv 1) pa_nil)) (pe_one (pe_callB (call_allU (B := B) rfl rfl) (by rfl) m_all (by decide +kernel) (pa_cons (pe_lc (own := [("value", 2)]) rfl sc_is_feature.nd (pi_of (B := B) rfl (pv 1)) (blkOk_by (N := N_is_feature_) (sc := defScope (top 11)) (by decide +kernel)) (fun _ _ _ _ _ => (pg_name (i := 2) sc_is_feature.nd rfl (Or.inl rfl))) (fun _ _ _ _ _ => pts_nil) (fun _ _ _ _ _ => (pe_callS (F_is_word.mono (by decide)) hr (by rfl) m_is_word k_is_word b_is_word (passAt tkW0) (pa_cons (pv 2) pa_nil)))) pa_nil))))))))) rfl
abbrev N_Catalog_features_ : List Str := ["self"]
def p_Catalog_features (B : Bs) : XS B := (.ret (.at [("Catalog", .fld)] "_features" (.var B 0)))
def g_Catalog_features (B : Bs) : Gf := (p_Catalog_features B).fn 1
theorem sc_Catalog_features : FnScope N_Catalog_features_ ["self"] (defScope (inClass (top 12) 1)) := ⟨rfl, rfl, rfl, by decide +kernel, rfl, by decide +kernel, by decide +kernel⟩
theorem ok_Catalog_features {B : Bs} {f : Addr} {fd : FuncData}  (Fn : Fun B.K "features" "Catalog.features" (inClass (top 12) 1) f fd) (A_Catalog__features : Cls B.K (B.ca "Catalog") ∧ NoAttr B.K (B.ca "Catalog") "_features") :
    FnOk P w B.K mg base (L2.CX P w) 3 f fd ["self"] (spD B 1 (g_Catalog_features B)) := by
  refine fn_ok Fn sc_Catalog_features (fun ds s _ => rfl) fun cdv A outer s H E hr => ?_
  exact conv (pss_one (ps_ret (pe_atU (B := B) (k := 1) hr (at_fld rfl A_Catalog__features) (pv 0) (at_fldN)))) rfl
abbrev N_Catalog_names_ : List Str := ["self"]
def p_Catalog_names (B : Bs) : XS B := (.ret (.blt (o_tupA B) [(.at [("Catalog", .fld)] "_values" (.var B 0))]))
def g_Catalog_names (B : Bs) : Gf := (p_Catalog_names B).fn 1
theorem sc_Catalog_names : FnScope N_Catalog_names_ ["self"] (defScope (inClass (top 12) 2)) := ⟨rfl, rfl, rfl, by decide +kernel, rfl, by decide +kernel, by decide +kernel⟩
theorem ok_Catalog_names {B : Bs} {f : Addr} {fd : FuncData}  (Fn : Fun B.K "names" "Catalog.names" (inClass (top 12) 2) f fd) (A_Catalog__values : Cls B.K (B.ca "Catalog") ∧ NoAttr B.K (B.ca "Catalog") "_values") (m_tuple : mg "tuple" = none) :
    FnOk P w B.K mg base (L2.CX P w) 3 f fd ["self"] (spD B 1 (g_Catalog_names B)) := by
  refine fn_ok Fn sc_Catalog_names (fun ds s _ => rfl) fun cdv A outer s H E hr => ?_
  exact conv (pss_one (ps_ret (pe_callTy (call_tupA (B := B) rfl rfl) (by rfl) m_tuple (by decide +kernel) (pa_cons (pe_atU (B := B) (k := 1) hr (at_fld rfl A_Catalog__values) (pv 0) (at_fldN)) pa_nil)))) rfl
theorem N_Catalog_features {B : Bs} : ∀ ds s c fs s2, g_Catalog_features B ds s ≠ .exc c fs s2 := noX_ret (noX_at noX_var)
theorem N_Catalog_names {B : Bs} : ∀ ds s c fs s2, g_Catalog_names B ds s ≠ .exc c fs s2 := noX_ret (noX_blt (noX_at noX_var))
abbrev N_Catalog__contains___ : List Str := ["self", "name"]
def p_Catalog__contains__ (B : Bs) : XS B := (.ret (.in false [] (.var B 1) (.at [("Catalog", .fld)] "_values" (.var B 0))))
def g_Catalog__contains__ (B : Bs) : Gf := (p_Catalog__contains__ B).fn 2
theorem sc_Catalog__contains__ : FnScope N_Catalog__contains___ ["self", "name"] (defScope (inClass (top 12) 5)) := ⟨rfl, rfl, rfl, by decide +kernel, rfl, by decide +kernel, by decide +kernel⟩
theorem ok_Catalog__contains__ {B : Bs} {f : Addr} {fd : FuncData}  (Fn : Fun B.K "__contains__" "Catalog.__contains__" (inClass (top 12) 5) f fd) (A_Catalog__values : Cls B.K (B.ca "Catalog") ∧ NoAttr B.K (B.ca "Catalog") "_values") :
    FnOk P w B.K mg base (L2.CX P w) 3 f fd ["self", "name"] (spD B 2 (g_Catalog__contains__ B)) := by
  refine fn_ok Fn sc_Catalog__contains__ (fun ds s _ => rfl) fun cdv A outer s H E hr => ?_
  exact conv (pss_one (ps_ret (pe_cmpE (op_inU (B := B) (hs := []) (k := 2) (neg := false) rfl rfl (takes_of rfl rfl rfl rfl) hr no_hd) (pv 1) (pe_atU (B := B) (k := 1) hr (at_fld rfl A_Catalog__values) (pv 0) (at_fldN))))) rfl
abbrev N_Catalog__len___ : List Str := ["self"]
def p_Catalog__len__ (B : Bs) : XS B := (.ret (.len [] (.at [("Catalog", .fld)] "_features" (.var B 0))))
def g_Catalog__len__ (B : Bs) : Gf := (p_Catalog__len__ B).fn 1
theorem sc_Catalog__len__ : FnScope N_Catalog__len___ ["self"] (defScope (inClass (top 12) 6)) := ⟨rfl, rfl, rfl, by decide +kernel, rfl, by decide +kernel, by decide +kernel⟩
theorem ok_Catalog__len__ {B : Bs} {f : Addr} {fd : FuncData}  (Fn : Fun B.K "__len__" "Catalog.__len__" (inClass (top 12) 6) f fd) (A_Catalog__features : Cls B.K (B.ca "Catalog") ∧ NoAttr B.K (B.ca "Catalog") "_features") (m_len : mg "len" = none) :
    FnOk P w B.K mg base (L2.CX P w) 3 f fd ["self"] (spD B 1 (g_Catalog__len__ B)) := by
  refine fn_ok Fn sc_Catalog__len__ (fun ds s _ => rfl) fun cdv A outer s H E hr => ?_
  exact conv (pss_one (ps_ret (pe_callB (call_lenU (B := B) (hs := []) (k := 1) rfl hr no_hd) (by rfl) m_len (by decide +kernel) (pa_cons (pe_atU (B := B) (k := 1) hr (at_fld rfl A_Catalog__features) (pv 0) (at_fldN)) pa_nil)))) rfl
abbrev N_Catalog__eq___ : List Str := ["self", "other"]
def p_Catalog__eq__ (B : Bs) : XS B := (.ret ((.and (.isi isi_Catalog (.var B 1)) (.eq false [] (.at [("Catalog", .fld)] "_features" (.var B 0)) (.at [("Catalog", .fld)] "_features" (.var B 1))))))
def g_Catalog__eq__ (B : Bs) : Gf := (p_Catalog__eq__ B).fn 2
theorem sc_Catalog__eq__ : FnScope N_Catalog__eq___ ["self", "other"] (defScope (inClass (top 12) 7)) := ⟨rfl, rfl, rfl, by decide +kernel, rfl, by decide +kernel, by decide +kernel⟩
theorem ok_Catalog__eq__ {B : Bs} {f : Addr} {fd : FuncData}  (Fn : Fun B.K "__eq__" "Catalog.__eq__" (inClass (top 12) 7) f fd) (I_Catalog : ∀ X : Cx, X.K = B.K → IsiOk B X [.ref (B.ca "Catalog")] isi_Catalog) (m_Catalog : mg "Catalog" = some (.ref (B.ca "Catalog"))) (m_isinstance : mg "isinstance" = none) (A_Catalog__features : Cls B.K (B.ca "Catalog") ∧ NoAttr B.K (B.ca "Catalog") "_features") :
    FnOk P w B.K mg base (L2.CX P w) 3 f fd ["self", "other"] (spD B 2 (g_Catalog__eq__ B)) := by
  refine fn_ok Fn sc_Catalog__eq__ (fun ds s _ => rfl) fun cdv A outer s H E hr => ?_
  exact conv (pss_one (ps_ret ((pe_and (pe_isi (B := B) (f := isi_Catalog) rfl (I_Catalog _ rfl) (by rfl) m_isinstance (pv 1) (pe_glob (v := .ref (B.ca "Catalog")) (by rfl) m_Catalog rfl) (.own _)) (pe_one (pe_cmpE (op_eqU (B := B) (hs := []) (k := 1) (neg := false) rfl rfl (takes_of rfl rfl rfl rfl) hr no_eq) (pe_atU (B := B) (k := 1) hr (at_fld rfl A_Catalog__features) (pv 0) (at_fldN)) (pe_atU (B := B) (k := 1) hr (at_fld rfl A_Catalog__features) (pv 1) (at_fldN)))))))) rfl
abbrev N_Catalog__getitem___ : List Str := ["self", "name"]
def p_Catalog__getitem__ (B : Bs) : XS B := (.seq (.ite (.ofE (.in true [] (.var B 1) (.at [("Catalog", .fld)] "_values" (.var B 0)))) (.rz "UnknownFeature" (.jn [(.str B "no feature "), (.fmt (.var B 1))])) (.pass B)) (.ret (.ix [] (.at [("Catalog", .fld)] "_values" (.var B 0)) (.var B 1))))
def g_Catalog__getitem__ (B : Bs) : Gf := (p_Catalog__getitem__ B).fn 2
theorem sc_Catalog__getitem__ : FnScope N_Catalog__getitem___ ["self", "name"] (defScope (inClass (top 12) 3)) := ⟨rfl, rfl, rfl, by decide +kernel, rfl, by decide +kernel, by decide +kernel⟩
theorem ok_Catalog__getitem__ {B : Bs} {f : Addr} {fd : FuncData} {bm_UnknownFeature : List Value} {Bn_UnknownFeature nw_UnknownFeature it_UnknownFeature : String} (Fn : Fun B.K "__getitem__" "Catalog.__getitem__" (inClass (top 12) 3) f fd) (A_Catalog__values : Cls B.K (B.ca "Catalog") ∧ NoAttr B.K (B.ca "Catalog") "_values") (EF_UnknownFeature : ExcBaseFacts Bn_UnknownFeature nw_UnknownFeature it_UnknownFeature bm_UnknownFeature) (X_UnknownFeature : PySem.W.excIn B.K (B.ca "UnknownFeature") bm_UnknownFeature nw_UnknownFeature = true) (m_UnknownFeature : mg "UnknownFeature" = some (.ref (B.ca "UnknownFeature"))) (k_UnknownFeature : PySem.W.keepIn B.K (.ref (B.ca "UnknownFeature")) = true) (r_UnknownFeature : ∀ X : Cx, X.K = B.K → Raises X (.ref (B.ca "UnknownFeature"))) :
    FnOk P w B.K mg base (L2.CX P w) 3 f fd ["self", "name"] (spD B 2 (g_Catalog__getitem__ B)) := by
  refine fn_ok Fn sc_Catalog__getitem__ (fun ds s _ => rfl) fun cdv A outer s H E hr => ?_
  exact conv (pss_cons (ps_if (pt_cmpE (op_inU (B := B) (hs := []) (k := 2) (neg := true) rfl rfl (takes_of rfl rfl rfl rfl) hr no_hd) (pv 1) (pe_atU (B := B) (k := 1) hr (at_fld rfl A_Catalog__values) (pv 0) (at_fldN))) (pss_one (ps_raise rfl (takes_of rfl rfl rfl rfl) (SkE.pmk_own1 EF_UnknownFeature X_UnknownFeature m_UnknownFeature k_UnknownFeature (r_UnknownFeature _ rfl) (by rfl) (pe_joined (PJ.cons (pe_str) (PJ.cons (pe_fmt (pv 1)) PJ.nil)))))) pss_nil) (pss_one (ps_ret (pe_ixU (B := B) (k := 1) rfl (takes_of rfl rfl rfl rfl) hr no_hd (pe_atU (B := B) (k := 1) hr (at_fld rfl A_Catalog__values) (pv 0) (at_fldN)) (pv 1) (fun _ _ => rfl))))) rfl
abbrev N_Catalog__init___ : List Str := ["self", "features", "names", "index", "name", "values"]
def p_Catalog__init__ (B : Bs) : XS B := (.seq (.ite (.ofE (.eq false [] (.len [] (.var B 1)) (.int B 0))) (.rf "InvalidCatalog" ["index"] (by decide) [(.int B 0)] rfl (Nat.le_of_ble_eq_true rfl)) (.pass B)) (.seq (.setN 2 (.lst [])) (.seq (.for (.enu (.var B 1)) (.tup [(.name B 3), (.tup [(.name B 4), (.name B 5)])]) (.seq (.ite (.view ((.or (.ofE (.eq false [] (.var B 3) (.int B 6))) (.or (.ofE (.in false [] (.var B 4) (.var B 2))) (.not (.ofE (.call 2 (g_is_feature B) [(.var B 4), (.var B 5)] rfl))))))) (.rf "InvalidCatalog" ["index"] (by decide) [(.var B 3)] rfl (Nat.le_of_ble_eq_true rfl)) (.pass B)) (.app 2 (.var B 4)))) (.seq (.setF "Catalog" "_features" 0 (.var B 1)) (.setF "Catalog" "_values" 0 (.blt (o_dicT B) [(.var B 1)]))))))
def g_Catalog__init__ (B : Bs) : Gf := (p_Catalog__init__ B).ini "Catalog" 6
theorem sc_Catalog__init__ : FnScope N_Catalog__init___ ["self", "features"] (defScope (inClass (top 12) 0)) := ⟨rfl, rfl, rfl, by decide +kernel, rfl, by decide +kernel, by decide +kernel⟩
theorem ok_Catalog__init__ {B : Bs} {f : Addr} {fd : FuncData} {a_is_feature : Addr} {fd_is_feature : FuncData} {a_InvalidCatalog__init__ : Addr} {fd_InvalidCatalog__init__ : FuncData} {t_MOST_FEATURES : Tok} (Fn : Fun B.K "__init__" "Catalog.__init__" (inClass (top 12) 0) f fd) (m_len : mg "len" = none) (F_InvalidCatalog__init__ : FnOk P w B.K mg base (L2.CX P w) 2 a_InvalidCatalog__init__ fd_InvalidCatalog__init__ ["self", "index"] (spX (B.ca "InvalidCatalog") ["index"])) (X_InvalidCatalog : OexC B.K (B.ca "InvalidCatalog")) (i_InvalidCatalog : PySem.W.findIn B.K (.ref (B.ca "InvalidCatalog")) "__init__" = some (some (.ref a_InvalidCatalog__init__))) (t_InvalidCatalog : PySem.W.typeIn B.K (.ref a_InvalidCatalog__init__) = some (.type "function")) (b_InvalidCatalog__init__ : Binds B.K fd_InvalidCatalog__init__ ["self", "index"] []) (m_InvalidCatalog : mg "InvalidCatalog" = some (.ref (B.ca "InvalidCatalog"))) (m_enumerate : mg "enumerate" = none) (m_MOST_FEATURES : mg "MOST_FEATURES" = some (.int 6 t_MOST_FEATURES)) (A_Catalog__features : Cls B.K (B.ca "Catalog") ∧ NoAttr B.K (B.ca "Catalog") "_features") (m_dict : mg "dict" = none) (A_Catalog__values : Cls B.K (B.ca "Catalog") ∧ NoAttr B.K (B.ca "Catalog") "_values") (F_is_feature : FnOk P w B.K mg base (L2.CX P w) 5 a_is_feature fd_is_feature ["name", "values"] (spD B 2 (g_is_feature B))) (m_is_feature : mg "is_feature" = some (.ref a_is_feature)) (k_is_feature : PySem.W.keepIn B.K (.ref a_is_feature) = true) (b_is_feature : Binds B.K fd_is_feature ["name", "values"] []) :
    FnOk P w B.K mg base (L2.CX P w) 7 f fd ["self", "features"] (spI B "Catalog" 1 (g_Catalog__init__ B)) := by
  refine init_ok Fn sc_Catalog__init__ rfl rfl fun cdv A outer s H E hr => ?_
  exact conv (pss_cons (ps_if (pt_cmpE (op_eqU (B := B) (hs := []) (k := 5) (neg := false) rfl rfl (takes_of rfl rfl rfl rfl) hr no_eq) (pe_callB (call_lenU (B := B) (hs := []) (k := 5) rfl hr no_hd) (by rfl) m_len (by decide +kernel) (pa_cons (pv 1) pa_nil)) (pe_int)) (pss_one (ps_raise rfl (takes_of rfl rfl rfl rfl) (pmk_oex X_InvalidCatalog i_InvalidCatalog t_InvalidCatalog (F_InvalidCatalog__init__.mono (by decide)) hr b_InvalidCatalog__init__ .nil passF (by rfl) m_InvalidCatalog (pa_cons (pe_int) pa_nil)))) pss_nil) (pss_cons (ps_set (i := 2) sc_Catalog__init__.nd rfl (Or.inl rfl) (pe_lst pa_nil)) (pss_cons (ps_for (passes_of rfl) rfl (pi_en (by rfl) m_enumerate (pa_cons (pv 1) pa_nil)) (pg_tup rfl (pgs_cons (pg_name (i := 3) sc_Catalog__init__.nd rfl (Or.inl rfl)) (pgs_cons (pg_tup rfl (pgs_cons (pg_name (i := 4) sc_Catalog__init__.nd rfl (Or.inl rfl)) (pgs_cons (pg_name (i := 5) sc_Catalog__init__.nd rfl (Or.inl rfl)) pgs_nil))) pgs_nil))) (pss_cons (ps_if (L2.PW.pt (pw_or (pt_cmpE (op_eqU (B := B) (hs := []) (k := 5) (neg := false) rfl rfl (takes_of rfl rfl rfl rfl) hr no_eq) (pv 3) (pe_glob (v := .int 6) (by rfl) m_MOST_FEATURES ⟨_, rfl⟩)) (pw_or (pt_cmpE (op_inU (B := B) (hs := []) (k := 6) (neg := false) rfl rfl (takes_of rfl rfl rfl rfl) hr no_hd) (pv 4) (pv 2)) (pw_or1 (pt_not (pt_val (pe_callS (F_is_feature.mono (by decide)) hr (by rfl) m_is_feature k_is_feature b_is_feature (passAt (takes_of rfl rfl rfl rfl)) (pa_cons (pv 4) (pa_cons (pv 5) pa_nil))))))))) (pss_one (ps_raise rfl (takes_of rfl rfl rfl rfl) (pmk_oex X_InvalidCatalog i_InvalidCatalog t_InvalidCatalog (F_InvalidCatalog__init__.mono (by decide)) hr b_InvalidCatalog__init__ .nil passF (by rfl) m_InvalidCatalog (pa_cons (pv 3) pa_nil)))) pss_nil) (pss_one (ps_expr (pe_bm PySem.F.plainAttrs_list PySem.F.slot_list_append PySem.F.type_list_append mt_append (pv 2) (pa_cons (pv 4) pa_nil)))))) (pss_cons (ps_setC (B := B) (c := "Catalog") rfl A_Catalog__features (pv 0) (pv 1) rfl) (pss_one (ps_setC (B := B) (c := "Catalog") rfl A_Catalog__values (pv 0) (pe_callTy (call_dicU (B := B) rfl rfl) (by rfl) m_dict (by decide +kernel) (pa_cons (pv 1) pa_nil)) rfl)))))) rfl
abbrev N__law_next_ : List Str := ["_law_h", "_law_limit", "_law_cell"]
def p__law_next (B : Bs) : XS B := (.seq (.set 2 (.ix [] (.hcat B 0) (.op2 (o_modI B) (.blt (o_int B) [(.h2 B 0)]) (.blt (o_max2 B) [(.int B 1), (.hlen B 0)])))) (.seq (.ite (.ofE (.op2 (o_geI B) (.var B 2) (.op2 (o_powI B) (.int B 10) (.int B 18)))) (.seq (.hc 0 (.op2 (o_modI B) (.blt (o_int B) [(.h2 B 0)]) (.hlen B 0)) (.op2 (o_divI B) (.var B 2) (.var B 1))) (.ret (.op2 (o_modI B) (.blt (o_int B) [(.var B 2)]) (.var B 1)))) (.pass B)) (.seq (.h0 0 (.op2 (o_modI B) (.blt (o_int B) [(.op2 (o_add B) (.op2 (o_add B) (.op2 (o_mulI B) (.h0 B 0) (.int B 48271)) (.op2 (o_mulI B) (.var B 2) (.int B 69621))) (.int B 11))]) (.int B 2147483647))) (.seq (.h2 0 (.op2 (o_add B) (.h2 B 0) (.int B 1))) (.ret (.op2 (o_modI B) (.blt (o_int B) [(.op2 (o_divI B) (.h0 B 0) (.int B 7))]) (.var B 1)))))))
def g__law_next (B : Bs) : Gf := (p__law_next B).fn 3
theorem sc__law_next : FnScope N__law_next_ ["_law_h", "_law_limit"] (defScope (top 15)) := ⟨rfl, rfl, rfl, by decide +kernel, rfl, by decide +kernel, by decide +kernel⟩
theorem ok__law_next {B : Bs} {f : Addr} {fd : FuncData}  (Fn : Fun B.K "_law_next" "_law_next" (top 15) f fd) (m_int : mg "int" = none) (m_len : mg "len" = none) (m_max : mg "max" = none) :
    FnOk P w B.K mg base (L2.CX P w) 3 f fd ["_law_h", "_law_limit"] (spD B 2 (g__law_next B)) := by
  refine fn_ok Fn sc__law_next (fun ds s _ => rfl) fun cdv A outer s H E hr => ?_
  exact conv (pss_cons (ps_set (i := 2) sc__law_next.nd rfl (Or.inl rfl) (pe_ixU (B := B) (k := 1) rfl (takes_of rfl rfl rfl rfl) hr no_hd (pe_op op_cat (pe_ix ix_list (pv 0) pe_int (fun _ _ => rfl)) (pe_lst (pa_cons pe_int pa_nil))) (pe_op op_mod (pe_callTy call_int1 (by rfl) m_int (by decide +kernel) (pa_cons (pe_ix ix_list (pv 0) pe_int (fun _ _ => rfl)) pa_nil)) (pe_callB (call_max2 rfl) (by rfl) m_max (by decide +kernel) (pa_cons (pe_int) (pa_cons (pe_callB (call_lenD_ (B := B) rfl) (by rfl) m_len (by decide +kernel) (pa_cons (pe_ix ix_list (pv 0) pe_int (fun _ _ => rfl)) pa_nil)) pa_nil)))) (fun _ _ => rfl))) (pss_cons (ps_if (pt_cmpR op_ge (pv 2) (pe_op op_pow (pe_int) (pe_int)) (nomark _)) (pss_cons (ps_asg (pe_op op_fdiv (pv 2) (pv 1)) (pg_sub (pe_ix ix_list (pv 0) pe_int (fun _ _ => rfl)) (pe_op op_mod (pe_callTy call_int1 (by rfl) m_int (by decide +kernel) (pa_cons (pe_ix ix_list (pv 0) pe_int (fun _ _ => rfl)) pa_nil)) (pe_callB (call_lenD_ (B := B) rfl) (by rfl) m_len (by decide +kernel) (pa_cons (pe_ix ix_list (pv 0) pe_int (fun _ _ => rfl)) pa_nil))) set_list)) (pss_one (ps_ret (pe_op op_mod (pe_callTy call_int1 (by rfl) m_int (by decide +kernel) (pa_cons (pv 2) pa_nil)) (pv 1))))) pss_nil) (pss_cons (ps_asg (pe_op op_mod (pe_callTy call_int1 (by rfl) m_int (by decide +kernel) (pa_cons (pe_op (op_addU (B := B) rfl) (pe_op (op_addU (B := B) rfl) (pe_op op_mul (pe_ix ix_list (pv 0) pe_int (fun _ _ => rfl)) (pe_int)) (pe_op op_mul (pv 2) (pe_int))) (pe_int)) pa_nil)) (pe_int)) (pg_sub (pv 0) pe_int set_list)) (pss_cons (ps_asg (pe_op (op_addU (B := B) rfl) (pe_ix ix_list (pv 0) pe_int (fun _ _ => rfl)) (pe_int)) (pg_sub (pv 0) pe_int set_list)) (pss_one (ps_ret (pe_op op_mod (pe_callTy call_int1 (by rfl) m_int (by decide +kernel) (pa_cons (pe_op op_fdiv (pe_ix ix_list (pv 0) pe_int (fun _ _ => rfl)) (pe_int)) pa_nil)) (pv 1)))))))) rfl
abbrev N__law_alike_ : List Str := ["_law_found", "_law_due", "_law_k"]
def p__law_alike (B : Bs) (G : Gf) : XS B := (.seq (.ite (.ofE (.isi isi_dict (.var B 1))) (.nv B) (.pass B)) (.seq (.ite (.ofE (.isiT isi_tuple_list (.var B 1))) (.seq (.ite ((.or (.not (.ofE (.isiT isi_tuple_list (.var B 0)))) (.ofE (.eq true [] (.isi isi_list (.var B 0)) (.isi isi_list (.var B 1)))))) (.ret (.bl B false)) (.pass B)) (.seq (.ite (.ofE (.eq true [] (.len [] (.var B 0)) (.len [] (.var B 1)))) (.ret (.bl B false)) (.pass B)) (.ret (.eq false [] (.ofN (.lc (.range1 (.len [] (.var B 1))) (.name B 2) (.not (.ofE (.call 2 (G) [(.ix [] (.var B 0) (.var B 2)), (.ix [] (.var B 1) (.var B 2))] rfl))) (.var B 2) [2])) (.ofN (.lst [])))))) (.pass B)) (.seq (.ite ((.or (.ofE (.op2 (o_isN B) (.var B 1) (.non B))) (.ofE (.isi isi_str (.var B 1))))) (.ret ((.and (.eq false [] (.var B 0) (.var B 1)) (.eq false [] (.isi isi_str (.var B 0)) (.isi isi_str (.var B 1)))))) (.pass B)) (.ret ((.and (.isi isi_int (.var B 0)) (.and (.eq false [] (.isi isi_bool (.var B 0)) (.isi isi_bool (.var B 1))) (.eq false [] (.var B 0) (.var B 1)))))))))
theorem sc__law_alike : FnScope N__law_alike_ ["_law_found", "_law_due"] (defScope (top 16)) := ⟨rfl, rfl, rfl, by decide +kernel, rfl, by decide +kernel, by decide +kernel⟩
def g__law_alike (B : Bs) : Nat → Gf
  | 0 => fun _ _ => .stuck
  | n + 1 => (p__law_alike B (g__law_alike B n)).fn 3
theorem ok__law_alike {B : Bs} {a__law_alike : Addr} {fd__law_alike : FuncData} (Fn : Fun B.K "_law_alike" "_law_alike" (top 16) a__law_alike fd__law_alike) (m__law_alike : mg "_law_alike" = some (.ref a__law_alike)) (k__law_alike : PySem.W.keepIn B.K (.ref a__law_alike) = true) (b__law_alike : Binds B.K fd__law_alike ["_law_found", "_law_due"] []) (I_dict : ∀ X : Cx, X.K = B.K → IsiOk B X [.type "dict"] isi_dict) (m_dict : mg "dict" = none) (m_isinstance : mg "isinstance" = none) (I_tuple_list : ∀ X : Cx, X.K = B.K → IsiOk B X [.type "tuple", .type "list"] isi_tuple_list) (m_list : mg "list" = none) (m_tuple : mg "tuple" = none) (I_list : ∀ X : Cx, X.K = B.K → IsiOk B X [.type "list"] isi_list) (m_len : mg "len" = none) (m_range : mg "range" = none) (I_str : ∀ X : Cx, X.K = B.K → IsiOk B X [.type "str"] isi_str) (m_str : mg "str" = none) (I_int : ∀ X : Cx, X.K = B.K → IsiOk B X [.type "int"] isi_int) (m_int : mg "int" = none) (I_bool : ∀ X : Cx, X.K = B.K → IsiOk B X [.type "bool"] isi_bool) (m_bool : mg "bool" = none) :
    ∀ n, FnOk P w B.K mg base (L2.CX P w) (n + 3) a__law_alike fd__law_alike ["_law_found", "_law_due"] (spD B 2 (g__law_alike B n))
  | 0 => fn_none
  | n + 1 => by
    have ih := ok__law_alike Fn m__law_alike k__law_alike b__law_alike I_dict m_dict m_isinstance I_tuple_list m_list m_tuple I_list m_len m_range I_str m_str I_int m_int I_bool m_bool n
    refine fn_ok Fn sc__law_alike (fun ds s _ => rfl) fun cdv A outer s H E hr => ?_
    exact conv (pss_cons (ps_if (pt_val (pe_isi (B := B) (f := isi_dict) rfl (I_dict _ rfl) (by rfl) m_isinstance (pv 1) (pe_bltn (v := .ty "dict") (by rfl) m_dict (by decide +kernel) rfl) (.ty _))) (pss_one (ps_never)) pss_nil) (pss_cons (ps_if (pt_val (pe_isiT (B := B) (f := isi_tuple_list) rfl (I_tuple_list _ rfl) (by rfl) m_isinstance (pv 1) (pa_cons (pe_bltn (v := .ty "tuple") (by rfl) m_tuple (by decide +kernel) rfl) (pa_cons (pe_bltn (v := .ty "list") (by rfl) m_list (by decide +kernel) rfl) pa_nil)) (fun _ _ _ z => z) (by decide) (.cons (.ty _) (.cons (.ty _) .nil)))) (pss_cons (ps_if (L2.PW.pt (pw_or (pt_not (pt_val (pe_isiT (B := B) (f := isi_tuple_list) rfl (I_tuple_list _ rfl) (by rfl) m_isinstance (pv 0) (pa_cons (pe_bltn (v := .ty "tuple") (by rfl) m_tuple (by decide +kernel) rfl) (pa_cons (pe_bltn (v := .ty "list") (by rfl) m_list (by decide +kernel) rfl) pa_nil)) (fun _ _ _ z => z) (by decide) (.cons (.ty _) (.cons (.ty _) .nil))))) (pw_or1 (pt_cmpE (op_eqU (B := B) (hs := []) (k := (n + 2)) (neg := true) rfl rfl (takes_of rfl rfl rfl rfl) hr no_eq) (pe_isi (B := B) (f := isi_list) rfl (I_list _ rfl) (by rfl) m_isinstance (pv 0) (pe_bltn (v := .ty "list") (by rfl) m_list (by decide +kernel) rfl) (.ty _)) (pe_isi (B := B) (f := isi_list) rfl (I_list _ rfl) (by rfl) m_isinstance (pv 1) (pe_bltn (v := .ty "list") (by rfl) m_list (by decide +kernel) rfl) (.ty _)))))) (pss_one (ps_ret (pe_bl))) pss_nil) (pss_cons (ps_if (pt_cmpE (op_eqU (B := B) (hs := []) (k := (n + 2)) (neg := true) rfl rfl (takes_of rfl rfl rfl rfl) hr no_eq) (pe_callB (call_lenU (B := B) (hs := []) (k := (n + 2)) rfl hr no_hd) (by rfl) m_len (by decide +kernel) (pa_cons (pv 0) pa_nil)) (pe_callB (call_lenU (B := B) (hs := []) (k := (n + 2)) rfl hr no_hd) (by rfl) m_len (by decide +kernel) (pa_cons (pv 1) pa_nil))) (pss_one (ps_ret (pe_bl))) pss_nil) (pss_one (ps_ret (pe_cmpE (op_eqU (B := B) (hs := []) (k := (n + 2)) (neg := false) rfl rfl (takes_of rfl rfl rfl rfl) hr no_eq) (pe_lc (own := [("_law_k", 2)]) rfl sc__law_alike.nd (pi_range1 (by rfl) m_range (pa_cons (pe_callB (call_lenU (B := B) (hs := []) (k := (n + 2)) rfl hr no_hd) (by rfl) m_len (by decide +kernel) (pa_cons (pv 1) pa_nil)) pa_nil)) (blkOk_by (N := N__law_alike_) (sc := defScope (top 16)) (by decide +kernel)) (fun _ _ _ _ _ => (pg_name (i := 2) sc__law_alike.nd rfl (Or.inl rfl))) (fun _ _ _ _ _ => (pts_one (pt_not (pt_val (pe_callS ih hr (by rfl) m__law_alike k__law_alike b__law_alike (passAt tkW0) (pa_cons (pe_ixU (B := B) (k := (n + 2)) rfl tkW0 hr no_hd (pv 0) (pv 2) (fun _ _ => rfl)) (pa_cons (pe_ixU (B := B) (k := (n + 2)) rfl tkW0 hr no_hd (pv 1) (pv 2) (fun _ _ => rfl)) pa_nil))))))) (fun _ _ _ _ _ => (pv 2))) (pe_lst pa_nil)))))) pss_nil) (pss_cons (ps_if (L2.PW.pt (pw_or (pt_cmpR op_isN1 (pv 1) (pe_non) (nomark _)) (pw_or1 (pt_val (pe_isi (B := B) (f := isi_str) rfl (I_str _ rfl) (by rfl) m_isinstance (pv 1) (pe_bltn (v := .ty "str") (by rfl) m_str (by decide +kernel) rfl) (.ty _)))))) (pss_one (ps_ret ((pe_and (pe_cmpE (op_eqU (B := B) (hs := []) (k := (n + 2)) (neg := false) rfl rfl (takes_of rfl rfl rfl rfl) hr no_eq) (pv 0) (pv 1)) (pe_one (pe_cmpE (op_eqU (B := B) (hs := []) (k := (n + 2)) (neg := false) rfl rfl (takes_of rfl rfl rfl rfl) hr no_eq) (pe_isi (B := B) (f := isi_str) rfl (I_str _ rfl) (by rfl) m_isinstance (pv 0) (pe_bltn (v := .ty "str") (by rfl) m_str (by decide +kernel) rfl) (.ty _)) (pe_isi (B := B) (f := isi_str) rfl (I_str _ rfl) (by rfl) m_isinstance (pv 1) (pe_bltn (v := .ty "str") (by rfl) m_str (by decide +kernel) rfl) (.ty _)))))))) pss_nil) (pss_one (ps_ret ((pe_and (pe_isi (B := B) (f := isi_int) rfl (I_int _ rfl) (by rfl) m_isinstance (pv 0) (pe_bltn (v := .ty "int") (by rfl) m_int (by decide +kernel) rfl) (.ty _)) (pe_and (pe_cmpE (op_eqU (B := B) (hs := []) (k := (n + 2)) (neg := false) rfl rfl (takes_of rfl rfl rfl rfl) hr no_eq) (pe_isi (B := B) (f := isi_bool) rfl (I_bool _ rfl) (by rfl) m_isinstance (pv 0) (pe_bltn (v := .ty "bool") (by rfl) m_bool (by decide +kernel) rfl) (.ty _)) (pe_isi (B := B) (f := isi_bool) rfl (I_bool _ rfl) (by rfl) m_isinstance (pv 1) (pe_bltn (v := .ty "bool") (by rfl) m_bool (by decide +kernel) rfl) (.ty _))) (pe_one (pe_cmpE (op_eqU (B := B) (hs := []) (k := (n + 2)) (neg := false) rfl rfl (takes_of rfl rfl rfl rfl) hr no_eq) (pv 0) (pv 1))))))))))) rfl
abbrev N__law_features_ : List Str := ["_law_h", "_law_most", "_law_found", "_law_k", "_law_words"]
def p__law_features (B : Bs) : XS B := (.seq (.setN 2 (.lst [])) (.seq (.for (.range1 (.op2 (o_add B) (.int B 1) (.call 2 (g__law_next B) [(.var B 0), (.var B 1)] rfl))) (.name B 3) (.seq (.setN 4 (.lst [(.str B "blue"), (.str B "gray"), (.str B "pink"), (.str B "red"), (.str B "tan")])) (.seq (.while 1000 (.view (.ofE (.op2 (o_gtI B) (.len [] (.var B 4)) (.op2 (o_add B) (.int B 2) (.call 2 (g__law_next B) [(.var B 0), (.int B 3)] rfl))))) (.popAt 4 (.view (.call 2 (g__law_next B) [(.var B 0), (.len [] (.var B 4))] rfl)))) (.frz 4 (.app 2 (.tup [(.ix [] (.ofN (.lst [(.str B "hue"), (.str B "size"), (.str B "age"), (.str B "kind"), (.str B "lid"), (.str B "bag")])) (.var B 3)), (.blt (o_tupA B) [(.var B 4)])])))))) (.frz 2 (.ret (.blt (o_tupA B) [(.var B 2)])))))
def g__law_features (B : Bs) : Gf := (p__law_features B).fn 5
theorem sc__law_features : FnScope N__law_features_ ["_law_h", "_law_most"] (defScope (top 17)) := ⟨rfl, rfl, rfl, by decide +kernel, rfl, by decide +kernel, by decide +kernel⟩
theorem ok__law_features {B : Bs} {f : Addr} {fd : FuncData} {a__law_next : Addr} {fd__law_next : FuncData} (Fn : Fun B.K "_law_features" "_law_features" (top 17) f fd) (m_range : mg "range" = none) (m_len : mg "len" = none) (m_tuple : mg "tuple" = none) (F__law_next : FnOk P w B.K mg base (L2.CX P w) 3 a__law_next fd__law_next ["_law_h", "_law_limit"] (spD B 2 (g__law_next B))) (m__law_next : mg "_law_next" = some (.ref a__law_next)) (k__law_next : PySem.W.keepIn B.K (.ref a__law_next) = true) (b__law_next : Binds B.K fd__law_next ["_law_h", "_law_limit"] []) :
    FnOk P w B.K mg base (L2.CX P w) 5 f fd ["_law_h", "_law_most"] (spD B 2 (g__law_features B)) := by
  refine fn_ok Fn sc__law_features (fun ds s _ => rfl) fun cdv A outer s H E hr => ?_
  exact conv (pss_cons (ps_set (i := 2) sc__law_features.nd rfl (Or.inl rfl) (pe_lst pa_nil)) (pss_cons (ps_for (passes_of rfl) rfl (pi_range1 (by rfl) m_range (pa_cons (pe_op (op_addU (B := B) rfl) (pe_int) (pe_callS (F__law_next.mono (by decide)) hr (by rfl) m__law_next k__law_next b__law_next (passAt (takes_of rfl rfl rfl rfl)) (pa_cons (pv 0) (pa_cons (pv 1) pa_nil)))) pa_nil)) (pg_name (i := 3) sc__law_features.nd rfl (Or.inl rfl)) (pss_cons (ps_set (i := 4) sc__law_features.nd rfl (Or.inl rfl) (pe_lst (pa_cons (pe_str) (pa_cons (pe_str) (pa_cons (pe_str) (pa_cons (pe_str) (pa_cons (pe_str) pa_nil))))))) (pss_cons (ps_while (passes_of rfl) (pt_cmpR op_gt (pe_callB (call_lenU (B := B) (hs := []) (k := 3) rfl hr no_hd) (by rfl) m_len (by decide +kernel) (pa_cons (pv 4) pa_nil)) (pe_op (op_addU (B := B) rfl) (pe_int) (pe_callS (F__law_next.mono (by decide)) hr (by rfl) m__law_next k__law_next b__law_next (passAt (takes_of rfl rfl rfl rfl)) (pa_cons (pv 0) (pa_cons (pe_int) pa_nil)))) (nomark _)) (pss_one (ps_expr (pe_bm PySem.F.plainAttrs_list PySem.F.slot_list_pop PySem.F.type_list_pop mt_popAt (pv 4) (pa_cons (pe_callS (F__law_next.mono (by decide)) hr (by rfl) m__law_next k__law_next b__law_next (passAt (takes_of rfl rfl rfl rfl)) (pa_cons (pv 0) (pa_cons (pe_callB (call_lenU (B := B) (hs := []) (k := 3) rfl hr no_hd) (by rfl) m_len (by decide +kernel) (pa_cons (pv 4) pa_nil)) pa_nil))) pa_nil))))) (pss_one (ps_expr (pe_bm PySem.F.plainAttrs_list PySem.F.slot_list_append PySem.F.type_list_append mt_append (pv 2) (pa_cons (pe_tupP (pa_cons (pe_ixU (B := B) (k := 3) rfl (takes_of rfl rfl rfl rfl) hr no_hd (pe_lst (pa_cons (pe_str) (pa_cons (pe_str) (pa_cons (pe_str) (pa_cons (pe_str) (pa_cons (pe_str) (pa_cons (pe_str) pa_nil))))))) (pv 3) (fun _ _ => rfl)) (pa_cons (pe_callTy (call_tupA (B := B) rfl rfl) (by rfl) m_tuple (by decide +kernel) (pa_cons (pv 4) pa_nil)) pa_nil))) pa_nil))))))) (pss_one (ps_ret (pe_callTy (call_tupA (B := B) rfl rfl) (by rfl) m_tuple (by decide +kernel) (pa_cons (pv 2) pa_nil)))))) rfl
abbrev N__law_index_ : List Str := ["_law_features_here", "e"]
def p__law_index (B : Bs) (x_InvalidCatalog : PySem.W.exmOne B.K (.ref (B.ca "InvalidCatalog")) (.ref (B.ca "InvalidCatalog")) = some true) : XS B := (.tryF "InvalidCatalog" "index" 1 (.ret (.make "Catalog" 1 (g_Catalog__init__ B) [(.var B 0)] rfl (XS.ini_ins))) x_InvalidCatalog)
def g__law_index (B : Bs) (x_InvalidCatalog : PySem.W.exmOne B.K (.ref (B.ca "InvalidCatalog")) (.ref (B.ca "InvalidCatalog")) = some true) : Gf := (p__law_index B x_InvalidCatalog).fn 2
theorem sc__law_index : FnScope N__law_index_ ["_law_features_here"] (defScope (top 18)) := ⟨rfl, rfl, rfl, by decide +kernel, rfl, by decide +kernel, by decide +kernel⟩
theorem ok__law_index {B : Bs} {f : Addr} {fd : FuncData} {a_Catalog__init__ : Addr} {fd_Catalog__init__ : FuncData} (Fn : Fun B.K "_law_index" "_law_index" (top 18) f fd) (K_Catalog : Mk B.K (B.ca "Catalog") a_Catalog__init__) (m_Catalog : mg "Catalog" = some (.ref (B.ca "Catalog"))) (b_Catalog__init__ : Binds B.K fd_Catalog__init__ ["self", "features"] []) (m_InvalidCatalog : mg "InvalidCatalog" = some (.ref (B.ca "InvalidCatalog"))) (x_InvalidCatalog : PySem.W.exmOne B.K (.ref (B.ca "InvalidCatalog")) (.ref (B.ca "InvalidCatalog")) = some true) (T_InvalidCatalog : XfC B.K (B.ca "InvalidCatalog")) (n_InvalidCatalog_index : PySem.W.findIn B.K (.ref (B.ca "InvalidCatalog")) "index" = some none) (F_Catalog__init__ : FnOk P w B.K mg base (L2.CX P w) 7 a_Catalog__init__ fd_Catalog__init__ ["self", "features"] (spI B "Catalog" 1 (g_Catalog__init__ B))) :
    FnOk P w B.K mg base (L2.CX P w) 9 f fd ["_law_features_here"] (spD B 1 (g__law_index B x_InvalidCatalog)) := by
  refine fn_ok Fn sc__law_index (fun ds s _ => rfl) fun cdv A outer s H E hr => ?_
  exact conv (pss_one (ps_try_as (i := 1) (ts := fun a cls d => tRet (tXf a cls d (B.ca "InvalidCatalog") "index" (tVar 1))) rfl rfl sc__law_index.nd rfl rfl ⟨by rfl, by decide, .inl m_InvalidCatalog⟩ (takes_of rfl rfl rfl rfl) (fun W pn xe tkb psb => (pss_one (ps_ret (pe_makeU (B := B) (k := 7) rfl tkb K_Catalog (F_Catalog__init__.mono (by decide)) hr (by rfl) m_Catalog b_Catalog__init__ (pa_cons (pv 0) pa_nil))))) (fun a oe cls d pn hz hf => pss_one (ps_ret (pe_xf T_InvalidCatalog n_InvalidCatalog_index hz hf (pv 1)))))) rfl
abbrev N__law_mix_ : List Str := ["_law_script", "_law_seed", "_law_state", "_law_cell"]
theorem sc__law_mix : FnScope N__law_mix_ ["_law_script", "_law_seed"] (defScope (top 14)) := ⟨rfl, rfl, rfl, by decide +kernel, rfl, by decide +kernel, by decide +kernel⟩
theorem ok__law_mix {B : Bs} {f : Addr} {fd : FuncData}  (Fn : Fun B.K "_law_mix" "_law_mix" (top 14) f fd) (m_int : mg "int" = none) (m_list : mg "list" = none) : FnOk P w B.K mg base (L2.CX P w) 3 f fd ["_law_script", "_law_seed"] (spMix B.K) :=
  Fn.okX sc__law_mix (fun vs H Q E h => by obtain ⟨_, _, _, rfl, _⟩ := h; rfl) fun cdv A outer s H vs Q E hr h => ⟨_, (pss_cons (ps_set (i := 2) sc__law_mix.nd rfl (Or.inl rfl) (pv 1)) (pss_cons (ps_for (passes_of rfl) rfl (pi_of (B := B) rfl (pv 0)) (pg_name (i := 3) sc__law_mix.nd rfl (Or.inl rfl)) (pss_one (ps_set (i := 2) sc__law_mix.nd rfl (Or.inl rfl) (pe_op op_mod (pe_callTy call_int1 (by rfl) m_int (by decide +kernel) (pa_cons (pe_op (op_addU (B := B) rfl) (pe_op (op_addU (B := B) rfl) (pe_op op_mul (pv 2) (pe_int)) (pe_op op_mod (pe_callTy call_int1 (by rfl) m_int (by decide +kernel) (pa_cons (pv 3) pa_nil)) (pe_int))) (pe_int)) pa_nil)) (pe_int))))) (pss_one (ps_ret (pe_lst (pa_cons (pv 2) (pa_cons (pe_callTy call_list_of (by rfl) m_list (by decide +kernel) (pa_cons (pv 0) pa_nil)) (pa_cons pe_int pa_nil)))))))), mix_body rfl (fun cls d _ H => E cls d H) h⟩
abbrev N_law_ : List Str := ["_law_script", "_law_h", "_law_turn", "_law_features_here", "_law_catalog", "_law_place", "_law_bad", "_law_wrong", "_law_more", "_law_found", "_law_due", "_law_name", "_law_words", "_law_sign", "_law_row"]
def p_law (B : Bs) (x_InvalidCatalog : PySem.W.exmOne B.K (.ref (B.ca "InvalidCatalog")) (.ref (B.ca "InvalidCatalog")) = some true) (x_UnknownFeature : PySem.W.exmOne B.K (.ref (B.ca "UnknownFeature")) (.ref (B.ca "UnknownFeature")) = some true) : XS B := (.seq (.for (.range1 (.int B 5)) (.name B 2) (.seq (.set 3 (.call 2 (g__law_features B) [(.var B 1), (.int B 6)] rfl)) (.seq (.par 4 5 (.make "Catalog" 1 (g_Catalog__init__ B) [(.var B 3)] rfl (XS.ini_ins)) (.call 2 (g__law_next B) [(.var B 1), (.op2 (o_add B) (.len [("Catalog", g_Catalog__len__ B)] (.var B 3)) (.int B 1))] rfl)) (.seq (.setN 6 (.lst [(.tup [(.str B ""), (.tup [(.str B "a"), (.str B "b")])]), (.tup [(.str B "Hue"), (.tup [(.str B "a"), (.str B "b")])]), (.tup [(.str B "ninelette"), (.tup [(.str B "a"), (.str B "b")])]), (.tup [(.str B "x"), (.tup [(.str B "a")])])])) (.seq (.frz 6 (.setN 6 (.cat (.var B 6) (.ofN (.lst [(.tup [(.str B "x"), (.tup [(.str B "b"), (.str B "a")])]), (.tup [(.str B "x"), (.tup [(.str B "a"), (.str B "a")])])]))))) (.seq (.frz 6 (.setN 6 (.cat (.var B 6) (.ofN (.lst [(.tup [(.str B "x"), (.tup [(.str B "a"), (.str B "B")])]), (.tup [(.str B "x"), (.tup [(.str B ""), (.str B "a")])]), (.tup [(.str B "x"), (.blt (o_tupA B) [(.ofN (.lc (.of (.str B "abcdefghi")) (.name B 13) (.yes B) (.op2 (o_add B) (.str B "a") (.var B 13)) [13]))])])]))))) (.seq (.app 6 (.ifx (.ofE (.op2 (o_gtI B) (.var B 5) (.int B 0))) (.tup [(.ix [("Catalog", g_Catalog__getitem__ B)] (.ix [("Catalog", g_Catalog__getitem__ B)] (.var B 3) (.int B 0)) (.int B 0)), (.tup [(.str B "a"), (.str B "b")])]) (.tup [(.str B "x"), (.tup [])]))) (.seq (.frz 6 (.set 7 (.op2 (o_add B) (.op2 (o_add B) (.sli (.var B 3) none (some (.var B 5))) (.tup [(.ix [("Catalog", g_Catalog__getitem__ B)] (.var B 6) (.call 2 (g__law_next B) [(.var B 1), (.int B 10)] rfl))])) (.sli (.var B 3) (some (.var B 5)) none)))) (.seq (.ite (.not (.ofE (.call 2 (g__law_alike B 6) [(.call 1 (g__law_index B x_InvalidCatalog) [(.var B 7)] rfl), (.var B 5)] rfl))) (.ret (.bl B false)) (.pass B)) (.seq (.set 8 (.blt (o_tupA B) [(.ofN (.lc (.of (.str B "abcdef")) (.name B 13) (.yes B) (.tup [(.op2 (o_add B) (.str B "f") (.var B 13)), (.tup [(.str B "a"), (.str B "b")])]) [13]))])) (.seq (.set 9 (.ofN (.lst [(.call 1 (g__law_index B x_InvalidCatalog) [(.tup [])] rfl), (.call 1 (g__law_index B x_InvalidCatalog) [(.op2 (o_add B) (.var B 8) (.tup [(.tup [(.str B "z"), (.tup [(.str B "a"), (.str B "b")])])]))] rfl), (.call 1 (g__law_index B x_InvalidCatalog) [(.op2 (o_add B) (.var B 8) (.tup [(.tup [(.str B "z"), (.tup [])])]))] rfl)]))) (.seq (.ite ((.or (.not (.ofE (.call 2 (g__law_alike B 6) [(.var B 9), (.ofN (.lst [(.int B 0), (.int B 6), (.int B 6)]))] rfl))) (.ofE (.eq true [("Catalog", g_Catalog__eq__ B)] (.len [("Catalog", g_Catalog__len__ B)] (.make "Catalog" 1 (g_Catalog__init__ B) [(.var B 8)] rfl (XS.ini_ins))) (.int B 6))))) (.ret (.bl B false)) (.pass B)) (.seq (.set 10 (.ofN (.lst [(.var B 3), (.blt (o_tupA B) [(.ofN (.lc (.of (.var B 3)) (.name B 14) (.yes B) (.ix [("Catalog", g_Catalog__getitem__ B)] (.var B 14) (.int B 0)) [14]))]), (.len [("Catalog", g_Catalog__len__ B)] (.var B 3))]))) (.seq (.ite (.not (.ofE (.call 2 (g__law_alike B 6) [(.ofN (.lst [(.at [("Catalog", .prop (g_Catalog_features B))] "features" (.var B 4)), (.at [("Catalog", .prop (g_Catalog_names B))] "names" (.var B 4)), (.len [("Catalog", g_Catalog__len__ B)] (.var B 4))])), (.var B 10)] rfl))) (.ret (.bl B false)) (.pass B)) (.seq (.for (.of (.var B 3)) (.tup [(.name B 11), (.name B 12)]) (.ite ((.or (.ofE (.in true [("Catalog", g_Catalog__contains__ B)] (.var B 11) (.var B 4))) (.not (.ofE (.call 2 (g__law_alike B 6) [(.ix [("Catalog", g_Catalog__getitem__ B)] (.var B 4) (.var B 11)), (.var B 12)] rfl))))) (.ret (.bl B false)) (.pass B))) (.seq (.ite ((.or (.ofE (.in false [("Catalog", g_Catalog__contains__ B)] (.str B "nofeat") (.var B 4))) (.or (.ofE (.eq true [("Catalog", g_Catalog__eq__ B)] (.var B 4) (.make "Catalog" 1 (g_Catalog__init__ B) [(.var B 3)] rfl (XS.ini_ins)))) (.ofE (.eq false [("Catalog", g_Catalog__eq__ B)] (.var B 4) (.make "Catalog" 1 (g_Catalog__init__ B) [(.tup [(.tup [(.str B "zz"), (.tup [(.str B "a"), (.str B "b")])])])] rfl (XS.ini_ins))))))) (.ret (.bl B false)) (.pass B)) (.try "UnknownFeature" (.seq (.drop (.ix [("Catalog", g_Catalog__getitem__ B)] (.var B 4) (.str B "nofeat"))) (.ret (.bl B false))) (.set 5 (.int B 0)) x_UnknownFeature))))))))))))))))) (.ret (.bl B true)))
theorem sc_law : FnScope N_law_ ["_law_script"] (defScope (top 19)) := ⟨rfl, rfl, rfl, by decide +kernel, rfl, by decide +kernel, by decide +kernel⟩
theorem ok_law {B : Bs} {f : Addr} {fd : FuncData} {a_Catalog__init__ : Addr} {fd_Catalog__init__ : FuncData} {a__law_alike : Addr} {fd__law_alike : FuncData} {a__law_features : Addr} {fd__law_features : FuncData} {a__law_index : Addr} {fd__law_index : FuncData} {a__law_mix : Addr} {fd__law_mix : FuncData} {a__law_next : Addr} {fd__law_next : FuncData} (Fn : Fun B.K "law" "law" (top 19) f fd) (m_range : mg "range" = none) (K_Catalog : Mk B.K (B.ca "Catalog") a_Catalog__init__) (m_Catalog : mg "Catalog" = some (.ref (B.ca "Catalog"))) (b_Catalog__init__ : Binds B.K fd_Catalog__init__ ["self", "features"] []) (M_Catalog__len__ : OwnP B P w mg base 3 "__len__" 1 "Catalog" (g_Catalog__len__ B)) (m_len : mg "len" = none) (m_tuple : mg "tuple" = none) (M_Catalog__getitem__ : OwnP B P w mg base 3 "__getitem__" 2 "Catalog" (g_Catalog__getitem__ B)) (x_InvalidCatalog : PySem.W.exmOne B.K (.ref (B.ca "InvalidCatalog")) (.ref (B.ca "InvalidCatalog")) = some true) (M_Catalog__eq__ : OwnP B P w mg base 3 "__eq__" 2 "Catalog" (g_Catalog__eq__ B)) (E_Catalog : PySem.W.findIn B.K (.ref (B.ca "Catalog")) "__ne__" = some (some (.builtin "object.__ne__")) ∧ PySem.W.mroIn B.K (B.ca "Catalog") (.type "object") = some true) (A_Catalog_features : AtP B P w mg base 3 "features" "Catalog" (g_Catalog_features B)) (A_Catalog_names : AtP B P w mg base 3 "names" "Catalog" (g_Catalog_names B)) (M_Catalog__contains__ : OwnP B P w mg base 3 "__contains__" 2 "Catalog" (g_Catalog__contains__ B)) (m_UnknownFeature : mg "UnknownFeature" = some (.ref (B.ca "UnknownFeature"))) (x_UnknownFeature : PySem.W.exmOne B.K (.ref (B.ca "UnknownFeature")) (.ref (B.ca "UnknownFeature")) = some true) (F_Catalog__init__ : FnOk P w B.K mg base (L2.CX P w) 7 a_Catalog__init__ fd_Catalog__init__ ["self", "features"] (spI B "Catalog" 1 (g_Catalog__init__ B))) (F__law_alike : FnOk P w B.K mg base (L2.CX P w) 9 a__law_alike fd__law_alike ["_law_found", "_law_due"] (spD B 2 (g__law_alike B 6))) (m__law_alike : mg "_law_alike" = some (.ref a__law_alike)) (k__law_alike : PySem.W.keepIn B.K (.ref a__law_alike) = true) (b__law_alike : Binds B.K fd__law_alike ["_law_found", "_law_due"] []) (F__law_features : FnOk P w B.K mg base (L2.CX P w) 5 a__law_features fd__law_features ["_law_h", "_law_most"] (spD B 2 (g__law_features B))) (m__law_features : mg "_law_features" = some (.ref a__law_features)) (k__law_features : PySem.W.keepIn B.K (.ref a__law_features) = true) (b__law_features : Binds B.K fd__law_features ["_law_h", "_law_most"] []) (F__law_index : FnOk P w B.K mg base (L2.CX P w) 9 a__law_index fd__law_index ["_law_features_here"] (spD B 1 (g__law_index B x_InvalidCatalog))) (m__law_index : mg "_law_index" = some (.ref a__law_index)) (k__law_index : PySem.W.keepIn B.K (.ref a__law_index) = true) (b__law_index : Binds B.K fd__law_index ["_law_features_here"] []) (F__law_mix : FnOk P w B.K mg base (L2.CX P w) 3 a__law_mix fd__law_mix ["_law_script", "_law_seed"] (spMix B.K)) (m__law_mix : mg "_law_mix" = some (.ref a__law_mix)) (k__law_mix : PySem.W.keepIn B.K (.ref a__law_mix) = true) (b__law_mix : Binds B.K fd__law_mix ["_law_script", "_law_seed"] []) (F__law_next : FnOk P w B.K mg base (L2.CX P w) 3 a__law_next fd__law_next ["_law_h", "_law_limit"] (spD B 2 (g__law_next B))) (m__law_next : mg "_law_next" = some (.ref a__law_next)) (k__law_next : PySem.W.keepIn B.K (.ref a__law_next) = true) (b__law_next : Binds B.K fd__law_next ["_law_h", "_law_limit"] [])
    (hev : ∀ ns : List Int, ns.length ≤ 63 → ∃ s, (p_law B x_InvalidCatalog x_UnknownFeature).ev ((Sl.fr (.rol ns) :: List.replicate 14 Sl.no).set 1 (.fr .hnd)) ⟨mixF ns 1, ns, 0⟩ = .ret (.bl true) s) : FnOk P w B.K mg base (L2.CX P w) 12 f fd ["_law_script"] (spLaw B.K) :=
  Fn.okX sc_law (fun vs H Q E h => by obtain ⟨_, _, rfl, _⟩ := h; rfl) fun cdv A outer s H vs Q E hr h => ⟨tSeq (tAsg (tCallS (spMix B.K) (WE fun cls d _ H => E cls d H) (tCons (tVar 0) (tCons (tC (.int 1)) tNil))) (gName 1)) ((p_law B x_InvalidCatalog x_UnknownFeature).ts fun cls d _ H => E cls d H), conv (pss_cons (ps_set (i := 1) sc_law.nd rfl (Or.inl rfl) (pe_callS (F__law_mix.mono (by decide)) hr (by rfl) m__law_mix k__law_mix b__law_mix (passAt (takes_of rfl rfl rfl rfl)) (pa_cons (pv 0) (pa_cons (pe_int) pa_nil)))) (pss_cons (ps_for (passes_of rfl) rfl (pi_range1 (by rfl) m_range (pa_cons (pe_int) pa_nil)) (pg_name (i := 2) sc_law.nd rfl (Or.inl rfl)) (pss_cons (ps_set (i := 3) sc_law.nd rfl (Or.inl rfl) (pe_callS (F__law_features.mono (by decide)) hr (by rfl) m__law_features k__law_features b__law_features (passAt (takes_of rfl rfl rfl rfl)) (pa_cons (pv 1) (pa_cons (pe_int) pa_nil)))) (pss_cons (ps_par (i := 4) (j := 5) rfl sc_law.nd rfl rfl (by decide) rfl rfl (pa_cons (pe_makeU (B := B) (k := 10) rfl (takes_of rfl rfl rfl rfl) K_Catalog (F_Catalog__init__.mono (by decide)) hr (by rfl) m_Catalog b_Catalog__init__ (pa_cons (pv 3) pa_nil)) (pa_cons (pe_callS (F__law_next.mono (by decide)) hr (by rfl) m__law_next k__law_next b__law_next (passAt (takes_of rfl rfl rfl rfl)) (pa_cons (pv 1) (pa_cons (pe_op (op_addU (B := B) rfl) (pe_callB (call_lenU (B := B) (hs := [("Catalog", g_Catalog__len__ B)]) (k := 10) rfl hr (hd_one rfl (M_Catalog__len__.mono (by decide)))) (by rfl) m_len (by decide +kernel) (pa_cons (pv 3) pa_nil)) (pe_int)) pa_nil))) pa_nil)) (by rfl)) (pss_cons (ps_set (i := 6) sc_law.nd rfl (Or.inl rfl) (pe_lst (pa_cons (pe_tupP (pa_cons (pe_str) (pa_cons (pe_tupP (pa_cons (pe_str) (pa_cons (pe_str) pa_nil))) pa_nil))) (pa_cons (pe_tupP (pa_cons (pe_str) (pa_cons (pe_tupP (pa_cons (pe_str) (pa_cons (pe_str) pa_nil))) pa_nil))) (pa_cons (pe_tupP (pa_cons (pe_str) (pa_cons (pe_tupP (pa_cons (pe_str) (pa_cons (pe_str) pa_nil))) pa_nil))) (pa_cons (pe_tupP (pa_cons (pe_str) (pa_cons (pe_tupP (pa_cons (pe_str) pa_nil)) pa_nil))) pa_nil)))))) (pss_cons (ps_set (i := 6) sc_law.nd rfl (Or.inl rfl) (pe_op (op_addU (B := B) rfl) (pv 6) (pe_lst (pa_cons (pe_tupP (pa_cons (pe_str) (pa_cons (pe_tupP (pa_cons (pe_str) (pa_cons (pe_str) pa_nil))) pa_nil))) (pa_cons (pe_tupP (pa_cons (pe_str) (pa_cons (pe_tupP (pa_cons (pe_str) (pa_cons (pe_str) pa_nil))) pa_nil))) pa_nil))))) (pss_cons (ps_set (i := 6) sc_law.nd rfl (Or.inl rfl) (pe_op (op_addU (B := B) rfl) (pv 6) (pe_lst (pa_cons (pe_tupP (pa_cons (pe_str) (pa_cons (pe_tupP (pa_cons (pe_str) (pa_cons (pe_str) pa_nil))) pa_nil))) (pa_cons (pe_tupP (pa_cons (pe_str) (pa_cons (pe_tupP (pa_cons (pe_str) (pa_cons (pe_str) pa_nil))) pa_nil))) (pa_cons (pe_tupP (pa_cons (pe_str) (pa_cons (pe_callTy (call_tupA (B := B) rfl rfl) (by rfl) m_tuple (by decide +kernel) (pa_cons (pe_lc (own := [("_law_sign", 13)]) rfl sc_law.nd (pi_of (B := B) rfl (pe_str)) (blkOk_by (N := N_law_) (sc := defScope (top 19)) (by decide +kernel)) (fun _ _ _ _ _ => (pg_name (i := 13) sc_law.nd rfl (Or.inl rfl))) (fun _ _ _ _ _ => pts_nil) (fun _ _ _ _ _ => (pe_op (op_addU (B := B) rfl) (pe_str) (pv 13)))) pa_nil)) pa_nil))) pa_nil)))))) (pss_cons (ps_expr (pe_bm PySem.F.plainAttrs_list PySem.F.slot_list_append PySem.F.type_list_append mt_append (pv 6) (pa_cons (pe_ifExp (pt_cmpR op_gt (pv 5) (pe_int) (nomark _)) (pe_tupP (pa_cons (pe_ixU (B := B) (k := 10) rfl (takes_of rfl rfl rfl rfl) hr (hd_one rfl (M_Catalog__getitem__.mono (by decide))) (pe_ixU (B := B) (k := 10) rfl (takes_of rfl rfl rfl rfl) hr (hd_one rfl (M_Catalog__getitem__.mono (by decide))) (pv 3) (pe_int) (fun _ _ => rfl)) (pe_int) (fun _ _ => rfl)) (pa_cons (pe_tupP (pa_cons (pe_str) (pa_cons (pe_str) pa_nil))) pa_nil))) (pe_tupP (pa_cons (pe_str) (pa_cons (pe_tupP pa_nil) pa_nil)))) pa_nil))) (pss_cons (ps_set (i := 7) sc_law.nd rfl (Or.inl rfl) (pe_op (op_addU (B := B) rfl) (pe_op (op_addU (B := B) rfl) (pe_slice (sl_D (B := B) rfl) (pv 3) po_none (po_some (pv 5))) (pe_tupP (pa_cons (pe_ixU (B := B) (k := 10) rfl (takes_of rfl rfl rfl rfl) hr (hd_one rfl (M_Catalog__getitem__.mono (by decide))) (pv 6) (pe_callS (F__law_next.mono (by decide)) hr (by rfl) m__law_next k__law_next b__law_next (passAt (takes_of rfl rfl rfl rfl)) (pa_cons (pv 1) (pa_cons (pe_int) pa_nil))) (fun _ _ => rfl)) pa_nil))) (pe_slice (sl_D (B := B) rfl) (pv 3) (po_some (pv 5)) po_none))) (pss_cons (ps_if (pt_not (pt_val (pe_callS (F__law_alike.mono (by decide)) hr (by rfl) m__law_alike k__law_alike b__law_alike (passAt (takes_of rfl rfl rfl rfl)) (pa_cons (pe_callS (F__law_index.mono (by decide)) hr (by rfl) m__law_index k__law_index b__law_index (passAt (takes_of rfl rfl rfl rfl)) (pa_cons (pv 7) pa_nil)) (pa_cons (pv 5) pa_nil))))) (pss_one (ps_ret (pe_bl))) pss_nil) (pss_cons (ps_set (i := 8) sc_law.nd rfl (Or.inl rfl) (pe_callTy (call_tupA (B := B) rfl rfl) (by rfl) m_tuple (by decide +kernel) (pa_cons (pe_lc (own := [("_law_sign", 13)]) rfl sc_law.nd (pi_of (B := B) rfl (pe_str)) (blkOk_by (N := N_law_) (sc := defScope (top 19)) (by decide +kernel)) (fun _ _ _ _ _ => (pg_name (i := 13) sc_law.nd rfl (Or.inl rfl))) (fun _ _ _ _ _ => pts_nil) (fun _ _ _ _ _ => (pe_tupP (pa_cons (pe_op (op_addU (B := B) rfl) (pe_str) (pv 13)) (pa_cons (pe_tupP (pa_cons (pe_str) (pa_cons (pe_str) pa_nil))) pa_nil))))) pa_nil))) (pss_cons (ps_set (i := 9) sc_law.nd rfl (Or.inl rfl) (pe_lst (pa_cons (pe_callS (F__law_index.mono (by decide)) hr (by rfl) m__law_index k__law_index b__law_index (passAt (takes_of rfl rfl rfl rfl)) (pa_cons (pe_tupP pa_nil) pa_nil)) (pa_cons (pe_callS (F__law_index.mono (by decide)) hr (by rfl) m__law_index k__law_index b__law_index (passAt (takes_of rfl rfl rfl rfl)) (pa_cons (pe_op (op_addU (B := B) rfl) (pv 8) (pe_tupP (pa_cons (pe_tupP (pa_cons (pe_str) (pa_cons (pe_tupP (pa_cons (pe_str) (pa_cons (pe_str) pa_nil))) pa_nil))) pa_nil))) pa_nil)) (pa_cons (pe_callS (F__law_index.mono (by decide)) hr (by rfl) m__law_index k__law_index b__law_index (passAt (takes_of rfl rfl rfl rfl)) (pa_cons (pe_op (op_addU (B := B) rfl) (pv 8) (pe_tupP (pa_cons (pe_tupP (pa_cons (pe_str) (pa_cons (pe_tupP pa_nil) pa_nil))) pa_nil))) pa_nil)) pa_nil))))) (pss_cons (ps_if (L2.PW.pt (pw_or (pt_not (pt_val (pe_callS (F__law_alike.mono (by decide)) hr (by rfl) m__law_alike k__law_alike b__law_alike (passAt (takes_of rfl rfl rfl rfl)) (pa_cons (pv 9) (pa_cons (pe_lst (pa_cons (pe_int) (pa_cons (pe_int) (pa_cons (pe_int) pa_nil)))) pa_nil))))) (pw_or1 (pt_cmpE (op_eqU (B := B) (hs := [("Catalog", g_Catalog__eq__ B)]) (k := 10) (neg := true) rfl rfl (takes_of rfl rfl rfl rfl) hr (eq_one rfl (M_Catalog__eq__.mono (by decide)) E_Catalog)) (pe_callB (call_lenU (B := B) (hs := [("Catalog", g_Catalog__len__ B)]) (k := 10) rfl hr (hd_one rfl (M_Catalog__len__.mono (by decide)))) (by rfl) m_len (by decide +kernel) (pa_cons (pe_makeU (B := B) (k := 10) rfl (takes_of rfl rfl rfl rfl) K_Catalog (F_Catalog__init__.mono (by decide)) hr (by rfl) m_Catalog b_Catalog__init__ (pa_cons (pv 8) pa_nil)) pa_nil)) (pe_int))))) (pss_one (ps_ret (pe_bl))) pss_nil) (pss_cons (ps_set (i := 10) sc_law.nd rfl (Or.inl rfl) (pe_lst (pa_cons (pv 3) (pa_cons (pe_callTy (call_tupA (B := B) rfl rfl) (by rfl) m_tuple (by decide +kernel) (pa_cons (pe_lc (own := [("_law_row", 14)]) rfl sc_law.nd (pi_of (B := B) rfl (pv 3)) (blkOk_by (N := N_law_) (sc := defScope (top 19)) (by decide +kernel)) (fun _ _ _ _ _ => (pg_name (i := 14) sc_law.nd rfl (Or.inl rfl))) (fun _ _ _ _ _ => pts_nil) (fun _ _ _ _ _ => (pe_ixU (B := B) (k := 10) rfl tkW0 hr (hd_one rfl (M_Catalog__getitem__.mono (by decide))) (pv 14) (pe_int) (fun _ _ => rfl)))) pa_nil)) (pa_cons (pe_callB (call_lenU (B := B) (hs := [("Catalog", g_Catalog__len__ B)]) (k := 10) rfl hr (hd_one rfl (M_Catalog__len__.mono (by decide)))) (by rfl) m_len (by decide +kernel) (pa_cons (pv 3) pa_nil)) pa_nil))))) (pss_cons (ps_if (pt_not (pt_val (pe_callS (F__law_alike.mono (by decide)) hr (by rfl) m__law_alike k__law_alike b__law_alike (passAt (takes_of rfl rfl rfl rfl)) (pa_cons (pe_lst (pa_cons (pe_atU (B := B) (k := 10) hr (at_prop rfl (A_Catalog_features.mono (by decide))) (pv 4) (at_propN N_Catalog_features)) (pa_cons (pe_atU (B := B) (k := 10) hr (at_prop rfl (A_Catalog_names.mono (by decide))) (pv 4) (at_propN N_Catalog_names)) (pa_cons (pe_callB (call_lenU (B := B) (hs := [("Catalog", g_Catalog__len__ B)]) (k := 10) rfl hr (hd_one rfl (M_Catalog__len__.mono (by decide)))) (by rfl) m_len (by decide +kernel) (pa_cons (pv 4) pa_nil)) pa_nil)))) (pa_cons (pv 10) pa_nil))))) (pss_one (ps_ret (pe_bl))) pss_nil) (pss_cons (ps_for (passes_of rfl) rfl (pi_of (B := B) rfl (pv 3)) (pg_tup rfl (pgs_cons (pg_name (i := 11) sc_law.nd rfl (Or.inl rfl)) (pgs_cons (pg_name (i := 12) sc_law.nd rfl (Or.inl rfl)) pgs_nil))) (pss_one (ps_if (L2.PW.pt (pw_or (pt_cmpE (op_inU (B := B) (hs := [("Catalog", g_Catalog__contains__ B)]) (k := 11) (neg := true) rfl rfl (takes_of rfl rfl rfl rfl) hr (hd_one rfl (M_Catalog__contains__.mono (by decide)))) (pv 11) (pv 4)) (pw_or1 (pt_not (pt_val (pe_callS (F__law_alike.mono (by decide)) hr (by rfl) m__law_alike k__law_alike b__law_alike (passAt (takes_of rfl rfl rfl rfl)) (pa_cons (pe_ixU (B := B) (k := 10) rfl (takes_of rfl rfl rfl rfl) hr (hd_one rfl (M_Catalog__getitem__.mono (by decide))) (pv 4) (pv 11) (fun _ _ => rfl)) (pa_cons (pv 12) pa_nil)))))))) (pss_one (ps_ret (pe_bl))) pss_nil))) (pss_cons (ps_if (L2.PW.pt (pw_or (pt_cmpE (op_inU (B := B) (hs := [("Catalog", g_Catalog__contains__ B)]) (k := 11) (neg := false) rfl rfl (takes_of rfl rfl rfl rfl) hr (hd_one rfl (M_Catalog__contains__.mono (by decide)))) (pe_str) (pv 4)) (pw_or (pt_cmpE (op_eqU (B := B) (hs := [("Catalog", g_Catalog__eq__ B)]) (k := 10) (neg := true) rfl rfl (takes_of rfl rfl rfl rfl) hr (eq_one rfl (M_Catalog__eq__.mono (by decide)) E_Catalog)) (pv 4) (pe_makeU (B := B) (k := 10) rfl (takes_of rfl rfl rfl rfl) K_Catalog (F_Catalog__init__.mono (by decide)) hr (by rfl) m_Catalog b_Catalog__init__ (pa_cons (pv 3) pa_nil))) (pw_or1 (pt_cmpE (op_eqU (B := B) (hs := [("Catalog", g_Catalog__eq__ B)]) (k := 10) (neg := false) rfl rfl (takes_of rfl rfl rfl rfl) hr (eq_one rfl (M_Catalog__eq__.mono (by decide)) E_Catalog)) (pv 4) (pe_makeU (B := B) (k := 10) rfl (takes_of rfl rfl rfl rfl) K_Catalog (F_Catalog__init__.mono (by decide)) hr (by rfl) m_Catalog b_Catalog__init__ (pa_cons (pe_tupP (pa_cons (pe_tupP (pa_cons (pe_str) (pa_cons (pe_tupP (pa_cons (pe_str) (pa_cons (pe_str) pa_nil))) pa_nil))) pa_nil)) pa_nil))))))) (pss_one (ps_ret (pe_bl))) pss_nil) (pss_one (ps_try_only rfl rfl ⟨by rfl, by decide, .inl m_UnknownFeature⟩ (takes_of rfl rfl rfl rfl) (fun W pn xe tkb psb => (pss_cons (ps_expr (pe_ixU (B := B) (k := 10) rfl tkb hr (hd_one rfl (M_Catalog__getitem__.mono (by decide))) (pv 4) (pe_str) (fun _ _ => rfl))) (pss_one (ps_ret (pe_bl))))) (fun a oe cls d pn hz hf => (pss_one (ps_set (i := 5) sc_law.nd rfl (Or.inl rfl) (pe_int)))))))))))))))))))))) (pss_one (ps_ret (pe_bl))))) rfl, law_body (i := 1) (by decide) (by decide) (by decide) (by decide) hev (fun cls d _ H => E cls d H) h⟩
abbrev N_InvalidCatalog__init___ : List Str := ["self", "index"]
theorem sc_InvalidCatalog__init__ : FnScope N_InvalidCatalog__init___ ["self", "index"] (defScope (inClass (top 2) 0)) := ⟨rfl, rfl, rfl, by decide +kernel, rfl, by decide +kernel, by decide +kernel⟩
theorem ok_InvalidCatalog__init__ {B : Bs} {f : Addr} {fd : FuncData} (Fn : Fun B.K "__init__" "InvalidCatalog.__init__" (inClass (top 2) 0) f fd) (X_InvalidCatalog : OexC B.K (B.ca "InvalidCatalog")) (n_InvalidCatalog_index : PySem.W.findIn B.K (.ref (B.ca "InvalidCatalog")) "index" = some none) :
    FnOk P w B.K mg base (L2.CX P w) 2 f fd ["self", "index"] (spX (B.ca "InvalidCatalog") ["index"]) :=
  Fn.okX sc_InvalidCatalog__init__ (fun vs H Q E h => by obtain ⟨a, ws, rfl, hl, _⟩ := h; simpa using hl) fun cdv A outer s H vs Q E hr h => ⟨_, pss_one (ps_ost (pv 0) (pv 1)), oex1_body rfl X_InvalidCatalog n_InvalidCatalog_index h⟩
theorem kit1 {K : PySem.W.Frag} {t u : Value} {b : Bool} (h : PySem.W.kitOne K t u = some b) : PySem.W.kitAny K t [u] = some b := by
  unfold PySem.W.kitAny
  rw [h]
  cases b <;> rfl
theorem kit_me {K : PySem.W.Frag} {C : Addr} : PySem.W.kitOne K (.ref C) (.ref C) = some true := by
  unfold PySem.W.kitOne
  rw [if_pos (by simp)]
theorem kit_no {K : PySem.W.Frag} {C : Addr} {T : String} (h1 : (PySem.W.clsIn K C).isSome = true) (h2 : PySem.W.typeIn K (.ref C) = some (.type "type")) (h3 : PySem.W.subIn K (.type T) (.ref C) = some false) : PySem.W.kitOne K (.type T) (.ref C) = some false := by
  unfold PySem.W.kitOne
  rw [if_neg (by simp)]
  unfold PySem.W.kitCls
  dsimp only
  rw [if_pos (by rw [h1, h2]; simp), h3]
theorem exm_me {K : PySem.W.Frag} {C : Addr} (h0 : PySem.W.subIn K (.ref C) (.type "BaseException") = some true) (h1 : (PySem.W.clsIn K C).isSome = true) (h2 : PySem.W.typeIn K (.ref C) = some (.type "type")) (h3 : PySem.W.subIn K (.ref C) (.ref C) = some true) : PySem.W.exmOne K (.ref C) (.ref C) = some true := by
  unfold PySem.W.exmOne
  rw [if_pos (by rw [h0]; simp)]
  unfold PySem.W.kitCls
  dsimp only
  rw [if_pos (by rw [h1, h2]; simp), h3]
theorem isiC {B : Bs} {X : Cx} (hK : X.K = B.K) (i : C8.InsC B.K (B.ca "Catalog")) (h1 : PySem.W.kitOne B.K (.type "NoneType") (.ref (B.ca "Catalog")) = some false) (h2 : PySem.W.kitOne B.K (.type "bool") (.ref (B.ca "Catalog")) = some false)
    (h3 : PySem.W.kitOne B.K (.type "int") (.ref (B.ca "Catalog")) = some false) (h4 : PySem.W.kitOne B.K (.type "str") (.ref (B.ca "Catalog")) = some false) (h5 : PySem.W.kitOne B.K (.type "list") (.ref (B.ca "Catalog")) = some false)
    (h6 : PySem.W.kitOne B.K (.type "tuple") (.ref (B.ca "Catalog")) = some false) (h7 : PySem.W.kitOne B.K (.type "dict") (.ref (B.ca "Catalog")) = some false) : IsiOk B X [.ref (B.ca "Catalog")] isi_Catalog := by
  have only : ∀ c b, isi_Catalog (.ins c) = some b → c = "Catalog" ∧ b = true := fun c b h => by
    have h2 : (if c = "Catalog" then some true else none) = some b := h
    by_cases hc : c = "Catalog"
    · rw [if_pos hc] at h2
      exact ⟨hc, (Option.some.inj h2).symm⟩
    · rw [if_neg hc] at h2
      cases h2
  refine ⟨fun k b h => ?_, fun c b h => ?_⟩
  · rw [hK]
    cases k with
    | ins c =>
      obtain ⟨rfl, rfl⟩ := only c b h
      exact kit1 i.me
    | non => cases h; exact kit1 h1
    | bl => cases h; exact kit1 h2
    | int => cases h; exact kit1 h3
    | str => cases h; exact kit1 h4
    | lst => cases h; exact kit1 h5
    | tup => cases h; exact kit1 h6
    | dic => cases h; exact kit1 h7
  · obtain ⟨rfl, rfl⟩ := only c b h
    rw [hK]
    exact i
theorem isi_dict_ok {B : Bs} {X : Cx} : IsiOk B X [.type "dict"] isi_dict := by
  refine ⟨fun k b h => ?_, fun c b h => nomatch h⟩
  cases k with
  | ins c => cases h
  | _ => cases h; rfl
theorem isi_list_ok {B : Bs} {X : Cx} : IsiOk B X [.type "list"] isi_list := by
  refine ⟨fun k b h => ?_, fun c b h => nomatch h⟩
  cases k with
  | ins c => cases h
  | _ => cases h; rfl
theorem isi_tuple_list_ok {B : Bs} {X : Cx} : IsiOk B X [.type "tuple", .type "list"] isi_tuple_list := by
  refine ⟨fun k b h => ?_, fun c b h => nomatch h⟩
  cases k with
  | ins c => cases h
  | _ => cases h; rfl
theorem isi_str_ok {B : Bs} {X : Cx} : IsiOk B X [.type "str"] isi_str := by
  refine ⟨fun k b h => ?_, fun c b h => nomatch h⟩
  cases k with
  | ins c => cases h
  | _ => cases h; rfl
theorem isi_int_ok {B : Bs} {X : Cx} : IsiOk B X [.type "int"] isi_int := by
  refine ⟨fun k b h => ?_, fun c b h => nomatch h⟩
  cases k with
  | ins c => cases h
  | _ => cases h; rfl
theorem isi_bool_ok {B : Bs} {X : Cx} : IsiOk B X [.type "bool"] isi_bool := by
  refine ⟨fun k b h => ?_, fun c b h => nomatch h⟩
  cases k with
  | ins c => cases h
  | _ => cases h; rfl
/-- three places for three names -/
theorem ca_ex (C1 C2 C3 : Addr) : ∃ ca : Str → Addr, C1 = ca "Catalog" ∧ C2 = ca "InvalidCatalog" ∧ C3 = ca "UnknownFeature" :=
  ⟨fun c => if c = "Catalog" then C1 else if c = "InvalidCatalog" then C2 else C3, (if_pos rfl).symm, ((if_neg (by decide +kernel)).trans (if_pos rfl)).symm, ((if_neg (by decide +kernel)).trans (if_neg (by decide +kernel))).symm⟩
theorem all_mk {l : PySem.W.OpenLaw} {w : World} {K : PySem.W.Frag} {h : Heap} {mg : Str → Option Value} {fa : Addr} (hev : ∀ (B : Bs) (x_InvalidCatalog : PySem.W.exmOne B.K (.ref (B.ca "InvalidCatalog")) (.ref (B.ca "InvalidCatalog")) = some true) (x_UnknownFeature : PySem.W.exmOne B.K (.ref (B.ca "UnknownFeature")) (.ref (B.ca "UnknownFeature")) = some true) (ns : List Int), ns.length ≤ 63 → ∃ s, (p_law B x_InvalidCatalog x_UnknownFeature).ev ((Sl.fr (.rol ns) :: List.replicate 14 Sl.no).set 1 (.fr .hnd)) ⟨mixF ns 1, ns, 0⟩ = .ret (.bl true) s) (X : K.In h) (G : h.Ns mainGlobals mg) (hfa : mg "law" = some (.ref fa))
    {C1 : Addr} {C2 : Addr} {C3 : Addr} {a_is_word : Addr} {od_is_word an_is_word : Option Addr} {sl_is_word : Array (Option Value)} {oc_is_word kV_is_word dc_is_word pm_is_word cd_is_word ct_is_word : Value} {a_ascends : Addr} {od_ascends an_ascends : Option Addr} {sl_ascends : Array (Option Value)} {oc_ascends kV_ascends dc_ascends pm_ascends cd_ascends ct_ascends : Value} {a_is_feature : Addr} {od_is_feature an_is_feature : Option Addr} {sl_is_feature : Array (Option Value)} {oc_is_feature kV_is_feature dc_is_feature pm_is_feature cd_is_feature ct_is_feature : Value} {a__law_mix : Addr} {od__law_mix an__law_mix : Option Addr} {sl__law_mix : Array (Option Value)} {oc__law_mix kV__law_mix dc__law_mix pm__law_mix cd__law_mix ct__law_mix : Value} {a__law_next : Addr} {od__law_next an__law_next : Option Addr} {sl__law_next : Array (Option Value)} {oc__law_next kV__law_next dc__law_next pm__law_next cd__law_next ct__law_next : Value} {a__law_alike : Addr} {od__law_alike an__law_alike : Option Addr} {sl__law_alike : Array (Option Value)} {oc__law_alike kV__law_alike dc__law_alike pm__law_alike cd__law_alike ct__law_alike : Value} {a__law_features : Addr} {od__law_features an__law_features : Option Addr} {sl__law_features : Array (Option Value)} {oc__law_features kV__law_features dc__law_features pm__law_features cd__law_features ct__law_features : Value} {a__law_index : Addr} {od__law_index an__law_index : Option Addr} {sl__law_index : Array (Option Value)} {oc__law_index kV__law_index dc__law_index pm__law_index cd__law_index ct__law_index : Value} {a_law : Addr} {od_law an_law : Option Addr} {sl_law : Array (Option Value)} {oc_law kV_law dc_law pm_law cd_law ct_law : Value} {a_Catalog__init__ : Addr} {od_Catalog__init__ an_Catalog__init__ : Option Addr} {sl_Catalog__init__ : Array (Option Value)} {oc_Catalog__init__ kV_Catalog__init__ dc_Catalog__init__ pm_Catalog__init__ cd_Catalog__init__ ct_Catalog__init__ : Value} {a_Catalog__contains__ : Addr} {od_Catalog__contains__ an_Catalog__contains__ : Option Addr} {sl_Catalog__contains__ : Array (Option Value)} {oc_Catalog__contains__ kV_Catalog__contains__ dc_Catalog__contains__ pm_Catalog__contains__ cd_Catalog__contains__ ct_Catalog__contains__ : Value} {a_Catalog__len__ : Addr} {od_Catalog__len__ an_Catalog__len__ : Option Addr} {sl_Catalog__len__ : Array (Option Value)} {oc_Catalog__len__ kV_Catalog__len__ dc_Catalog__len__ pm_Catalog__len__ cd_Catalog__len__ ct_Catalog__len__ : Value} {a_Catalog__eq__ : Addr} {od_Catalog__eq__ an_Catalog__eq__ : Option Addr} {sl_Catalog__eq__ : Array (Option Value)} {oc_Catalog__eq__ kV_Catalog__eq__ dc_Catalog__eq__ pm_Catalog__eq__ cd_Catalog__eq__ ct_Catalog__eq__ : Value} {a_Catalog__getitem__ : Addr} {od_Catalog__getitem__ an_Catalog__getitem__ : Option Addr} {sl_Catalog__getitem__ : Array (Option Value)} {oc_Catalog__getitem__ kV_Catalog__getitem__ dc_Catalog__getitem__ pm_Catalog__getitem__ cd_Catalog__getitem__ ct_Catalog__getitem__ : Value} {pr_features : Addr} {rest_features : List Value} {a_Catalog_features : Addr} {od_Catalog_features an_Catalog_features : Option Addr} {sl_Catalog_features : Array (Option Value)} {oc_Catalog_features kV_Catalog_features dc_Catalog_features pm_Catalog_features cd_Catalog_features ct_Catalog_features : Value} {pr_names : Addr} {rest_names : List Value} {a_Catalog_names : Addr} {od_Catalog_names an_Catalog_names : Option Addr} {sl_Catalog_names : Array (Option Value)} {oc_Catalog_names kV_Catalog_names dc_Catalog_names pm_Catalog_names cd_Catalog_names ct_Catalog_names : Value} {a_InvalidCatalog__init__ : Addr} {od_InvalidCatalog__init__ an_InvalidCatalog__init__ : Option Addr} {sl_InvalidCatalog__init__ : Array (Option Value)} {oc_InvalidCatalog__init__ kV_InvalidCatalog__init__ dc_InvalidCatalog__init__ pm_InvalidCatalog__init__ cd_InvalidCatalog__init__ ct_InvalidCatalog__init__ : Value} {nm_2 q_2 : Str} {N_2 : Addr} {bs_2 bm_2 : List Value} {sn_2 : List Str} {sub_2 : List Value} {ab_2 : Bool} {col_2 : Option Bool} {dd_2 : Option Addr} {k0_2 k1_2 k2_2 k3_2 k5_2 : Option Value} {t_MOST_FEATURES : Tok} {t_FEWEST_VALUES : Tok} {t_MOST_VALUES : Tok} {t_MOST_LETTERS : Tok}
    (y_Catalog : PySem.W.nsIn K mainGlobals "Catalog" = some (some (.ref C1)))
    (y_InvalidCatalog : PySem.W.nsIn K mainGlobals "InvalidCatalog" = some (some (.ref C2)))
    (y_UnknownFeature : PySem.W.nsIn K mainGlobals "UnknownFeature" = some (some (.ref C3)))
    (y_is_word : PySem.W.nsIn K mainGlobals "is_word" = some (some (.ref a_is_word)))
    (l_is_word : K.lookup a_is_word = some ⟨oc_is_word, od_is_word, .func (PySem.W.fnOf "is_word" "is_word" (defArgs (top 9)) (defBody (top 9)) (defScope (top 9)) .none kV_is_word dc_is_word pm_is_word an_is_word cd_is_word ct_is_word), sl_is_word⟩)
    (c_is_word : PySem.W.codeIn K cd_is_word "is_word" = true)
    (kp_is_word : PySem.W.keepIn K (.ref a_is_word) = true)
    (y_ascends : PySem.W.nsIn K mainGlobals "ascends" = some (some (.ref a_ascends)))
    (l_ascends : K.lookup a_ascends = some ⟨oc_ascends, od_ascends, .func (PySem.W.fnOf "ascends" "ascends" (defArgs (top 10)) (defBody (top 10)) (defScope (top 10)) .none kV_ascends dc_ascends pm_ascends an_ascends cd_ascends ct_ascends), sl_ascends⟩)
    (c_ascends : PySem.W.codeIn K cd_ascends "ascends" = true)
    (kp_ascends : PySem.W.keepIn K (.ref a_ascends) = true)
    (y_is_feature : PySem.W.nsIn K mainGlobals "is_feature" = some (some (.ref a_is_feature)))
    (l_is_feature : K.lookup a_is_feature = some ⟨oc_is_feature, od_is_feature, .func (PySem.W.fnOf "is_feature" "is_feature" (defArgs (top 11)) (defBody (top 11)) (defScope (top 11)) .none kV_is_feature dc_is_feature pm_is_feature an_is_feature cd_is_feature ct_is_feature), sl_is_feature⟩)
    (c_is_feature : PySem.W.codeIn K cd_is_feature "is_feature" = true)
    (kp_is_feature : PySem.W.keepIn K (.ref a_is_feature) = true)
    (y__law_mix : PySem.W.nsIn K mainGlobals "_law_mix" = some (some (.ref a__law_mix)))
    (l__law_mix : K.lookup a__law_mix = some ⟨oc__law_mix, od__law_mix, .func (PySem.W.fnOf "_law_mix" "_law_mix" (defArgs (top 14)) (defBody (top 14)) (defScope (top 14)) .none kV__law_mix dc__law_mix pm__law_mix an__law_mix cd__law_mix ct__law_mix), sl__law_mix⟩)
    (c__law_mix : PySem.W.codeIn K cd__law_mix "_law_mix" = true)
    (kp__law_mix : PySem.W.keepIn K (.ref a__law_mix) = true)
    (y__law_next : PySem.W.nsIn K mainGlobals "_law_next" = some (some (.ref a__law_next)))
    (l__law_next : K.lookup a__law_next = some ⟨oc__law_next, od__law_next, .func (PySem.W.fnOf "_law_next" "_law_next" (defArgs (top 15)) (defBody (top 15)) (defScope (top 15)) .none kV__law_next dc__law_next pm__law_next an__law_next cd__law_next ct__law_next), sl__law_next⟩)
    (c__law_next : PySem.W.codeIn K cd__law_next "_law_next" = true)
    (kp__law_next : PySem.W.keepIn K (.ref a__law_next) = true)
    (y__law_alike : PySem.W.nsIn K mainGlobals "_law_alike" = some (some (.ref a__law_alike)))
    (l__law_alike : K.lookup a__law_alike = some ⟨oc__law_alike, od__law_alike, .func (PySem.W.fnOf "_law_alike" "_law_alike" (defArgs (top 16)) (defBody (top 16)) (defScope (top 16)) .none kV__law_alike dc__law_alike pm__law_alike an__law_alike cd__law_alike ct__law_alike), sl__law_alike⟩)
    (c__law_alike : PySem.W.codeIn K cd__law_alike "_law_alike" = true)
    (kp__law_alike : PySem.W.keepIn K (.ref a__law_alike) = true)
    (y__law_features : PySem.W.nsIn K mainGlobals "_law_features" = some (some (.ref a__law_features)))
    (l__law_features : K.lookup a__law_features = some ⟨oc__law_features, od__law_features, .func (PySem.W.fnOf "_law_features" "_law_features" (defArgs (top 17)) (defBody (top 17)) (defScope (top 17)) .none kV__law_features dc__law_features pm__law_features an__law_features cd__law_features ct__law_features), sl__law_features⟩)
    (c__law_features : PySem.W.codeIn K cd__law_features "_law_features" = true)
    (kp__law_features : PySem.W.keepIn K (.ref a__law_features) = true)
    (y__law_index : PySem.W.nsIn K mainGlobals "_law_index" = some (some (.ref a__law_index)))
    (l__law_index : K.lookup a__law_index = some ⟨oc__law_index, od__law_index, .func (PySem.W.fnOf "_law_index" "_law_index" (defArgs (top 18)) (defBody (top 18)) (defScope (top 18)) .none kV__law_index dc__law_index pm__law_index an__law_index cd__law_index ct__law_index), sl__law_index⟩)
    (c__law_index : PySem.W.codeIn K cd__law_index "_law_index" = true)
    (kp__law_index : PySem.W.keepIn K (.ref a__law_index) = true)
    (y_law : PySem.W.nsIn K mainGlobals "law" = some (some (.ref a_law)))
    (l_law : K.lookup a_law = some ⟨oc_law, od_law, .func (PySem.W.fnOf "law" "law" (defArgs (top 19)) (defBody (top 19)) (defScope (top 19)) .none kV_law dc_law pm_law an_law cd_law ct_law), sl_law⟩)
    (c_law : PySem.W.codeIn K cd_law "law" = true)
    (kp_law : PySem.W.keepIn K (.ref a_law) = true)
    (y_Catalog__init__ : PySem.W.findIn K (.ref C1) "__init__" = some (some (.ref a_Catalog__init__)))
    (l_Catalog__init__ : K.lookup a_Catalog__init__ = some ⟨oc_Catalog__init__, od_Catalog__init__, .func (PySem.W.fnOf "__init__" "Catalog.__init__" (defArgs (inClass (top 12) 0)) (defBody (inClass (top 12) 0)) (defScope (inClass (top 12) 0)) .none kV_Catalog__init__ dc_Catalog__init__ pm_Catalog__init__ an_Catalog__init__ cd_Catalog__init__ ct_Catalog__init__), sl_Catalog__init__⟩)
    (c_Catalog__init__ : PySem.W.codeIn K cd_Catalog__init__ "Catalog.__init__" = true)
    (kp_Catalog__init__ : PySem.W.keepIn K (.ref a_Catalog__init__) = true)
    (f_Catalog__init__ : PySem.W.isFn K (.ref a_Catalog__init__) = true)
    (fi_Catalog__init__ : PySem.W.fnIn K a_Catalog__init__ = true)
    (y_Catalog__contains__ : PySem.W.findIn K (.ref C1) "__contains__" = some (some (.ref a_Catalog__contains__)))
    (l_Catalog__contains__ : K.lookup a_Catalog__contains__ = some ⟨oc_Catalog__contains__, od_Catalog__contains__, .func (PySem.W.fnOf "__contains__" "Catalog.__contains__" (defArgs (inClass (top 12) 5)) (defBody (inClass (top 12) 5)) (defScope (inClass (top 12) 5)) .none kV_Catalog__contains__ dc_Catalog__contains__ pm_Catalog__contains__ an_Catalog__contains__ cd_Catalog__contains__ ct_Catalog__contains__), sl_Catalog__contains__⟩)
    (c_Catalog__contains__ : PySem.W.codeIn K cd_Catalog__contains__ "Catalog.__contains__" = true)
    (kp_Catalog__contains__ : PySem.W.keepIn K (.ref a_Catalog__contains__) = true)
    (f_Catalog__contains__ : PySem.W.isFn K (.ref a_Catalog__contains__) = true)
    (fi_Catalog__contains__ : PySem.W.fnIn K a_Catalog__contains__ = true)
    (y_Catalog__len__ : PySem.W.findIn K (.ref C1) "__len__" = some (some (.ref a_Catalog__len__)))
    (l_Catalog__len__ : K.lookup a_Catalog__len__ = some ⟨oc_Catalog__len__, od_Catalog__len__, .func (PySem.W.fnOf "__len__" "Catalog.__len__" (defArgs (inClass (top 12) 6)) (defBody (inClass (top 12) 6)) (defScope (inClass (top 12) 6)) .none kV_Catalog__len__ dc_Catalog__len__ pm_Catalog__len__ an_Catalog__len__ cd_Catalog__len__ ct_Catalog__len__), sl_Catalog__len__⟩)
    (c_Catalog__len__ : PySem.W.codeIn K cd_Catalog__len__ "Catalog.__len__" = true)
    (kp_Catalog__len__ : PySem.W.keepIn K (.ref a_Catalog__len__) = true)
    (f_Catalog__len__ : PySem.W.isFn K (.ref a_Catalog__len__) = true)
    (fi_Catalog__len__ : PySem.W.fnIn K a_Catalog__len__ = true)
    (y_Catalog__eq__ : PySem.W.findIn K (.ref C1) "__eq__" = some (some (.ref a_Catalog__eq__)))
    (l_Catalog__eq__ : K.lookup a_Catalog__eq__ = some ⟨oc_Catalog__eq__, od_Catalog__eq__, .func (PySem.W.fnOf "__eq__" "Catalog.__eq__" (defArgs (inClass (top 12) 7)) (defBody (inClass (top 12) 7)) (defScope (inClass (top 12) 7)) .none kV_Catalog__eq__ dc_Catalog__eq__ pm_Catalog__eq__ an_Catalog__eq__ cd_Catalog__eq__ ct_Catalog__eq__), sl_Catalog__eq__⟩)
    (c_Catalog__eq__ : PySem.W.codeIn K cd_Catalog__eq__ "Catalog.__eq__" = true)
    (kp_Catalog__eq__ : PySem.W.keepIn K (.ref a_Catalog__eq__) = true)
    (f_Catalog__eq__ : PySem.W.isFn K (.ref a_Catalog__eq__) = true)
    (fi_Catalog__eq__ : PySem.W.fnIn K a_Catalog__eq__ = true)
    (y_Catalog__getitem__ : PySem.W.findIn K (.ref C1) "__getitem__" = some (some (.ref a_Catalog__getitem__)))
    (l_Catalog__getitem__ : K.lookup a_Catalog__getitem__ = some ⟨oc_Catalog__getitem__, od_Catalog__getitem__, .func (PySem.W.fnOf "__getitem__" "Catalog.__getitem__" (defArgs (inClass (top 12) 3)) (defBody (inClass (top 12) 3)) (defScope (inClass (top 12) 3)) .none kV_Catalog__getitem__ dc_Catalog__getitem__ pm_Catalog__getitem__ an_Catalog__getitem__ cd_Catalog__getitem__ ct_Catalog__getitem__), sl_Catalog__getitem__⟩)
    (c_Catalog__getitem__ : PySem.W.codeIn K cd_Catalog__getitem__ "Catalog.__getitem__" = true)
    (kp_Catalog__getitem__ : PySem.W.keepIn K (.ref a_Catalog__getitem__) = true)
    (f_Catalog__getitem__ : PySem.W.isFn K (.ref a_Catalog__getitem__) = true)
    (fi_Catalog__getitem__ : PySem.W.fnIn K a_Catalog__getitem__ = true)
    (p1_features : PySem.W.findIn K (.ref C1) "features" = some (some (.ref pr_features)))
    (p2_features : PySem.W.specialIn K (.ref pr_features) "__get__" = some (some (.builtin "property.__get__")))
    (p3_features : PySem.W.takesIn K (.ref pr_features) = some true)
    (p4_features : PySem.W.recIn K pr_features "property" = some (.ref a_Catalog_features :: rest_features))
    (l_Catalog_features : K.lookup a_Catalog_features = some ⟨oc_Catalog_features, od_Catalog_features, .func (PySem.W.fnOf "features" "Catalog.features" (defArgs (inClass (top 12) 1)) (defBody (inClass (top 12) 1)) (defScope (inClass (top 12) 1)) .none kV_Catalog_features dc_Catalog_features pm_Catalog_features an_Catalog_features cd_Catalog_features ct_Catalog_features), sl_Catalog_features⟩)
    (c_Catalog_features : PySem.W.codeIn K cd_Catalog_features "Catalog.features" = true)
    (kp_Catalog_features : PySem.W.keepIn K (.ref a_Catalog_features) = true)
    (p1_names : PySem.W.findIn K (.ref C1) "names" = some (some (.ref pr_names)))
    (p2_names : PySem.W.specialIn K (.ref pr_names) "__get__" = some (some (.builtin "property.__get__")))
    (p3_names : PySem.W.takesIn K (.ref pr_names) = some true)
    (p4_names : PySem.W.recIn K pr_names "property" = some (.ref a_Catalog_names :: rest_names))
    (l_Catalog_names : K.lookup a_Catalog_names = some ⟨oc_Catalog_names, od_Catalog_names, .func (PySem.W.fnOf "names" "Catalog.names" (defArgs (inClass (top 12) 2)) (defBody (inClass (top 12) 2)) (defScope (inClass (top 12) 2)) .none kV_Catalog_names dc_Catalog_names pm_Catalog_names an_Catalog_names cd_Catalog_names ct_Catalog_names), sl_Catalog_names⟩)
    (c_Catalog_names : PySem.W.codeIn K cd_Catalog_names "Catalog.names" = true)
    (kp_Catalog_names : PySem.W.keepIn K (.ref a_Catalog_names) = true)
    (y_InvalidCatalog__init__ : PySem.W.findIn K (.ref C2) "__init__" = some (some (.ref a_InvalidCatalog__init__)))
    (l_InvalidCatalog__init__ : K.lookup a_InvalidCatalog__init__ = some ⟨oc_InvalidCatalog__init__, od_InvalidCatalog__init__, .func (PySem.W.fnOf "__init__" "InvalidCatalog.__init__" (defArgs (inClass (top 2) 0)) (defBody (inClass (top 2) 0)) (defScope (inClass (top 2) 0)) .none kV_InvalidCatalog__init__ dc_InvalidCatalog__init__ pm_InvalidCatalog__init__ an_InvalidCatalog__init__ cd_InvalidCatalog__init__ ct_InvalidCatalog__init__), sl_InvalidCatalog__init__⟩)
    (c_InvalidCatalog__init__ : PySem.W.codeIn K cd_InvalidCatalog__init__ "InvalidCatalog.__init__" = true)
    (kp_InvalidCatalog__init__ : PySem.W.keepIn K (.ref a_InvalidCatalog__init__) = true)
    (f_InvalidCatalog__init__ : PySem.W.typeIn K (.ref a_InvalidCatalog__init__) = some (.type "function"))
    (pg : PySem.W.plainGet K C1 Str.empty = true)
    (hd : PySem.W.hasDictIn K C1 = true)
    (po : PySem.W.plainOver K C1 = true)
    (sa : PySem.W.findIn K (.ref C1) "__setattr__" = some (some (.builtin "object.__setattr__")))
    (mk : PySem.W.makesIn K C1 = true)
    (kc : PySem.W.keepIn K (.ref C1) = true)
    (n1 : PySem.W.findIn K (.ref C1) "_features" = some none)
    (n2 : PySem.W.findIn K (.ref C1) "_values" = some none)
    (ne : PySem.W.findIn K (.ref C1) "__ne__" = some (some (.builtin "object.__ne__")))
    (mo : PySem.W.mroIn K C1 (.type "object") = some true)
    (ha : PySem.W.findIn K (.ref C1) "__class__" = some (some (.builtin "object.__class__")))
    (hn : PySem.W.specialIn K (.builtin "object.__class__") "__get__" = some (some (.builtin "getset_descriptor.__get__")))
    (htk : PySem.W.takesIn K (.builtin "object.__class__") = some true)
    (ic1 : PySem.W.isClsIn K C1 = true)
    (ty1 : PySem.W.typeIn K (.ref C1) = some (.type "type"))
    (xc : K.lookup C2 = some (excClassObj nm_2 q_2 C2 N_2 bs_2 bm_2 true sn_2 sub_2 ab_2 col_2 dd_2 k0_2 k1_2 k2_2 k3_2 k5_2 "ValueError.__new__"))
    (xr : PySem.HandSPX.refsVE bm_2 = true)
    (xs : PySem.W.findIn K (.ref C2) "__setattr__" = some (some (.builtin "object.__setattr__")))
    (xe : PySem.W.subIn K (.ref C2) (.type "BaseException") = some true)
    (xt : PySem.W.typeIn K (.ref C2) = some (.type "type"))
    (xk : PySem.W.keepIn K (.ref C2) = true)
    (xg : PySem.W.findIn K (.ref C2) "__getattribute__" = some (some (.builtin "BaseException.__getattribute__")))
    (xq : PySem.W.findIn K (.ref C2) "__getattr__" = some none)
    (xd : PySem.W.hasDictIn K C2 = true)
    (xi : PySem.W.findIn K (.ref C2) "index" = some none)
    (ic2 : PySem.W.isClsIn K C2 = true)
    (sb2 : PySem.W.subIn K (.ref C2) (.ref C2) = some true)
    (ux : PySem.W.excIn K C3 [.type "ValueError", .type "Exception", .type "BaseException", .type "object"] "ValueError.__new__" = true)
    (uk : PySem.W.keepIn K (.ref C3) = true)
    (us : PySem.W.subIn K (.ref C3) (.type "BaseException") = some true)
    (ut : PySem.W.typeIn K (.ref C3) = some (.type "type"))
    (ic3 : PySem.W.isClsIn K C3 = true)
    (sb3 : PySem.W.subIn K (.ref C3) (.ref C3) = some true)
    (z_all : PySem.W.nsIn K mainGlobals "all" = some none)
    (z_bool : PySem.W.nsIn K mainGlobals "bool" = some none)
    (z_dict : PySem.W.nsIn K mainGlobals "dict" = some none)
    (z_enumerate : PySem.W.nsIn K mainGlobals "enumerate" = some none)
    (z_int : PySem.W.nsIn K mainGlobals "int" = some none)
    (z_isinstance : PySem.W.nsIn K mainGlobals "isinstance" = some none)
    (z_len : PySem.W.nsIn K mainGlobals "len" = some none)
    (z_list : PySem.W.nsIn K mainGlobals "list" = some none)
    (z_max : PySem.W.nsIn K mainGlobals "max" = some none)
    (z_range : PySem.W.nsIn K mainGlobals "range" = some none)
    (z_str : PySem.W.nsIn K mainGlobals "str" = some none)
    (z_tuple : PySem.W.nsIn K mainGlobals "tuple" = some none)
    (z_zip : PySem.W.nsIn K mainGlobals "zip" = some none)
    (v_MOST_FEATURES : PySem.W.nsIn K mainGlobals "MOST_FEATURES" = some (some (.int 6 t_MOST_FEATURES)))
    (v_FEWEST_VALUES : PySem.W.nsIn K mainGlobals "FEWEST_VALUES" = some (some (.int 2 t_FEWEST_VALUES)))
    (v_MOST_VALUES : PySem.W.nsIn K mainGlobals "MOST_VALUES" = some (some (.int 8 t_MOST_VALUES)))
    (v_MOST_LETTERS : PySem.W.nsIn K mainGlobals "MOST_LETTERS" = some (some (.int 8 t_MOST_LETTERS)))
    : ∃ fd : FuncData, (∀ (s : Shared) (v : Value), BindsTo s fd ⟨[v], []⟩ [("_law_script", v)]) ∧ ∀ base : Heap, K.In base → base.Ns mainGlobals mg → FnOk l.prog w K mg base (L2.CX l.prog w) 12 fa fd ["_law_script"] (spLaw K) := by
  have e := hfa.symm.trans (PySem.W.mg_of X G y_law)
  cases e
  obtain ⟨ca, e1, e2, e3⟩ := ca_ex C1 C2 C3
  subst e1 e2 e3
  refine ⟨PySem.W.fnOf "law" "law" (defArgs (top 19)) (defBody (top 19)) (defScope (top 19)) .none kV_law dc_law pm_law an_law cd_law ct_law, fun s v => .of_eq rfl, fun base _ _ => ?_⟩
  let B : Bs := ⟨K, ca⟩
  have m_all := PySem.W.mg_none_of X G z_all
  have m_bool := PySem.W.mg_none_of X G z_bool
  have m_dict := PySem.W.mg_none_of X G z_dict
  have m_enumerate := PySem.W.mg_none_of X G z_enumerate
  have m_int := PySem.W.mg_none_of X G z_int
  have m_isinstance := PySem.W.mg_none_of X G z_isinstance
  have m_len := PySem.W.mg_none_of X G z_len
  have m_list := PySem.W.mg_none_of X G z_list
  have m_max := PySem.W.mg_none_of X G z_max
  have m_range := PySem.W.mg_none_of X G z_range
  have m_str := PySem.W.mg_none_of X G z_str
  have m_tuple := PySem.W.mg_none_of X G z_tuple
  have m_zip := PySem.W.mg_none_of X G z_zip
  have m_MOST_FEATURES := PySem.W.mg_of X G v_MOST_FEATURES
  have m_FEWEST_VALUES := PySem.W.mg_of X G v_FEWEST_VALUES
  have m_MOST_VALUES := PySem.W.mg_of X G v_MOST_VALUES
  have m_MOST_LETTERS := PySem.W.mg_of X G v_MOST_LETTERS
  have m_is_word := PySem.W.mg_of X G y_is_word
  have m_ascends := PySem.W.mg_of X G y_ascends
  have m_is_feature := PySem.W.mg_of X G y_is_feature
  have m__law_mix := PySem.W.mg_of X G y__law_mix
  have m__law_next := PySem.W.mg_of X G y__law_next
  have m__law_alike := PySem.W.mg_of X G y__law_alike
  have m__law_features := PySem.W.mg_of X G y__law_features
  have m__law_index := PySem.W.mg_of X G y__law_index
  have m_Catalog := PySem.W.mg_of X G y_Catalog
  have m_InvalidCatalog := PySem.W.mg_of X G y_InvalidCatalog
  have m_UnknownFeature := PySem.W.mg_of X G y_UnknownFeature
  have N_is_word : Fun B.K "is_word" "is_word" (top 9) a_is_word _ := fun_mk (st := (top 9)) l_is_word c_is_word kp_is_word
  have b_is_word := N_is_word.binds (ps := ["text"]) fun _ _ _ _ _ _ us hl => match us, hl with | [_], _ => rfl
  have k_is_word := kp_is_word
  have N_ascends : Fun B.K "ascends" "ascends" (top 10) a_ascends _ := fun_mk (st := (top 10)) l_ascends c_ascends kp_ascends
  have b_ascends := N_ascends.binds (ps := ["words"]) fun _ _ _ _ _ _ us hl => match us, hl with | [_], _ => rfl
  have k_ascends := kp_ascends
  have N_is_feature : Fun B.K "is_feature" "is_feature" (top 11) a_is_feature _ := fun_mk (st := (top 11)) l_is_feature c_is_feature kp_is_feature
  have b_is_feature := N_is_feature.binds (ps := ["name", "values"]) fun _ _ _ _ _ _ us hl => match us, hl with | [_, _], _ => rfl
  have k_is_feature := kp_is_feature
  have N__law_mix : Fun B.K "_law_mix" "_law_mix" (top 14) a__law_mix _ := fun_mk (st := (top 14)) l__law_mix c__law_mix kp__law_mix
  have b__law_mix := N__law_mix.binds (ps := ["_law_script", "_law_seed"]) fun _ _ _ _ _ _ us hl => match us, hl with | [_, _], _ => rfl
  have k__law_mix := kp__law_mix
  have N__law_next : Fun B.K "_law_next" "_law_next" (top 15) a__law_next _ := fun_mk (st := (top 15)) l__law_next c__law_next kp__law_next
  have b__law_next := N__law_next.binds (ps := ["_law_h", "_law_limit"]) fun _ _ _ _ _ _ us hl => match us, hl with | [_, _], _ => rfl
  have k__law_next := kp__law_next
  have N__law_alike : Fun B.K "_law_alike" "_law_alike" (top 16) a__law_alike _ := fun_mk (st := (top 16)) l__law_alike c__law_alike kp__law_alike
  have b__law_alike := N__law_alike.binds (ps := ["_law_found", "_law_due"]) fun _ _ _ _ _ _ us hl => match us, hl with | [_, _], _ => rfl
  have k__law_alike := kp__law_alike
  have N__law_features : Fun B.K "_law_features" "_law_features" (top 17) a__law_features _ := fun_mk (st := (top 17)) l__law_features c__law_features kp__law_features
  have b__law_features := N__law_features.binds (ps := ["_law_h", "_law_most"]) fun _ _ _ _ _ _ us hl => match us, hl with | [_, _], _ => rfl
  have k__law_features := kp__law_features
  have N__law_index : Fun B.K "_law_index" "_law_index" (top 18) a__law_index _ := fun_mk (st := (top 18)) l__law_index c__law_index kp__law_index
  have b__law_index := N__law_index.binds (ps := ["_law_features_here"]) fun _ _ _ _ _ _ us hl => match us, hl with | [_], _ => rfl
  have k__law_index := kp__law_index
  have N_law : Fun B.K "law" "law" (top 19) fa _ := fun_mk (st := (top 19)) l_law c_law kp_law
  have b_law := N_law.binds (ps := ["_law_script"]) fun _ _ _ _ _ _ us hl => match us, hl with | [_], _ => rfl
  have k_law := kp_law
  have N_Catalog__init__ : Fun B.K "__init__" "Catalog.__init__" (inClass (top 12) 0) a_Catalog__init__ _ := fun_mk (st := (inClass (top 12) 0)) l_Catalog__init__ c_Catalog__init__ kp_Catalog__init__
  have b_Catalog__init__ := N_Catalog__init__.binds (ps := ["self", "features"]) fun _ _ _ _ _ _ us hl => match us, hl with | [_, _], _ => rfl
  have N_Catalog__contains__ : Fun B.K "__contains__" "Catalog.__contains__" (inClass (top 12) 5) a_Catalog__contains__ _ := fun_mk (st := (inClass (top 12) 5)) l_Catalog__contains__ c_Catalog__contains__ kp_Catalog__contains__
  have b_Catalog__contains__ := N_Catalog__contains__.binds (ps := ["self", "name"]) fun _ _ _ _ _ _ us hl => match us, hl with | [_, _], _ => rfl
  have N_Catalog__len__ : Fun B.K "__len__" "Catalog.__len__" (inClass (top 12) 6) a_Catalog__len__ _ := fun_mk (st := (inClass (top 12) 6)) l_Catalog__len__ c_Catalog__len__ kp_Catalog__len__
  have b_Catalog__len__ := N_Catalog__len__.binds (ps := ["self"]) fun _ _ _ _ _ _ us hl => match us, hl with | [_], _ => rfl
  have N_Catalog__eq__ : Fun B.K "__eq__" "Catalog.__eq__" (inClass (top 12) 7) a_Catalog__eq__ _ := fun_mk (st := (inClass (top 12) 7)) l_Catalog__eq__ c_Catalog__eq__ kp_Catalog__eq__
  have b_Catalog__eq__ := N_Catalog__eq__.binds (ps := ["self", "other"]) fun _ _ _ _ _ _ us hl => match us, hl with | [_, _], _ => rfl
  have N_Catalog__getitem__ : Fun B.K "__getitem__" "Catalog.__getitem__" (inClass (top 12) 3) a_Catalog__getitem__ _ := fun_mk (st := (inClass (top 12) 3)) l_Catalog__getitem__ c_Catalog__getitem__ kp_Catalog__getitem__
  have b_Catalog__getitem__ := N_Catalog__getitem__.binds (ps := ["self", "name"]) fun _ _ _ _ _ _ us hl => match us, hl with | [_, _], _ => rfl
  have N_Catalog_features : Fun B.K "features" "Catalog.features" (inClass (top 12) 1) a_Catalog_features _ := fun_mk (st := (inClass (top 12) 1)) l_Catalog_features c_Catalog_features kp_Catalog_features
  have b_Catalog_features := N_Catalog_features.binds (ps := ["self"]) fun _ _ _ _ _ _ us hl => match us, hl with | [_], _ => rfl
  have N_Catalog_names : Fun B.K "names" "Catalog.names" (inClass (top 12) 2) a_Catalog_names _ := fun_mk (st := (inClass (top 12) 2)) l_Catalog_names c_Catalog_names kp_Catalog_names
  have b_Catalog_names := N_Catalog_names.binds (ps := ["self"]) fun _ _ _ _ _ _ us hl => match us, hl with | [_], _ => rfl
  have N_InvalidCatalog__init__ : Fun B.K "__init__" "InvalidCatalog.__init__" (inClass (top 2) 0) a_InvalidCatalog__init__ _ := fun_mk (st := (inClass (top 2) 0)) l_InvalidCatalog__init__ c_InvalidCatalog__init__ kp_InvalidCatalog__init__
  have b_InvalidCatalog__init__ := N_InvalidCatalog__init__.binds (ps := ["self", "index"]) fun _ _ _ _ _ _ us hl => match us, hl with | [_, _], _ => rfl
  have clC : Cls B.K (B.ca "Catalog") := ⟨pg, hd, po, sa⟩
  have A_Catalog__features : Cls B.K (B.ca "Catalog") ∧ NoAttr B.K (B.ca "Catalog") "_features" := ⟨clC, n1⟩
  have A_Catalog__values : Cls B.K (B.ca "Catalog") ∧ NoAttr B.K (B.ca "Catalog") "_values" := ⟨clC, n2⟩
  have E_Catalog : PySem.W.findIn B.K (.ref (B.ca "Catalog")) "__ne__" = some (some (.builtin "object.__ne__")) ∧ PySem.W.mroIn B.K (B.ca "Catalog") (.type "object") = some true := ⟨ne, mo⟩
  have K_Catalog : Mk B.K (B.ca "Catalog") a_Catalog__init__ := ⟨mk, y_Catalog__init__, f_Catalog__init__, kc⟩
  have X_InvalidCatalog : OexC B.K (B.ca "InvalidCatalog") := ⟨⟨_, _, _, _, _, _, _, _, _, _, _, _, _, _, _, xc, xr⟩, xs, xe, xt, xk⟩
  have i_InvalidCatalog := y_InvalidCatalog__init__
  have t_InvalidCatalog := f_InvalidCatalog__init__
  have x_InvalidCatalog : PySem.W.exmOne B.K (.ref (B.ca "InvalidCatalog")) (.ref (B.ca "InvalidCatalog")) = some true := exm_me xe ic2 xt sb2
  have x_UnknownFeature : PySem.W.exmOne B.K (.ref (B.ca "UnknownFeature")) (.ref (B.ca "UnknownFeature")) = some true := exm_me us ic3 ut sb3
  have T_InvalidCatalog : XfC B.K (B.ca "InvalidCatalog") := ⟨xg, xq, xe, xd⟩
  have n_InvalidCatalog_index := xi
  have EF_UnknownFeature := PySem.F.excBase_ValueError
  have X_UnknownFeature := ux
  have k_UnknownFeature := uk
  have r_UnknownFeature : ∀ X : Cx, X.K = B.K → Raises X (.ref (B.ca "UnknownFeature")) := fun X hK => raises_own (by rw [hK]; exact us) (by rw [hK]; exact ut)
  have I_Catalog : ∀ X : Cx, X.K = B.K → IsiOk B X [.ref (B.ca "Catalog")] isi_Catalog := fun X hK => isiC hK ⟨clC, ha, hn, htk, mo, kit_me⟩ (kit_no ic1 ty1 rfl) (kit_no ic1 ty1 rfl) (kit_no ic1 ty1 rfl) (kit_no ic1 ty1 rfl) (kit_no ic1 ty1 rfl) (kit_no ic1 ty1 rfl) (kit_no ic1 ty1 rfl)
  have I_dict : ∀ X : Cx, X.K = B.K → IsiOk B X [.type "dict"] isi_dict := fun X hK => isi_dict_ok
  have I_list : ∀ X : Cx, X.K = B.K → IsiOk B X [.type "list"] isi_list := fun X hK => isi_list_ok
  have I_tuple_list : ∀ X : Cx, X.K = B.K → IsiOk B X [.type "tuple", .type "list"] isi_tuple_list := fun X hK => isi_tuple_list_ok
  have I_str : ∀ X : Cx, X.K = B.K → IsiOk B X [.type "str"] isi_str := fun X hK => isi_str_ok
  have I_int : ∀ X : Cx, X.K = B.K → IsiOk B X [.type "int"] isi_int := fun X hK => isi_int_ok
  have I_bool : ∀ X : Cx, X.K = B.K → IsiOk B X [.type "bool"] isi_bool := fun X hK => isi_bool_ok
  have F_InvalidCatalog__init__ : FnOk l.prog w B.K mg base (L2.CX l.prog w) 2 a_InvalidCatalog__init__ _ ["self", "index"] (spX (B.ca "InvalidCatalog") ["index"]) := ok_InvalidCatalog__init__ N_InvalidCatalog__init__ X_InvalidCatalog xi
  have F_is_word := ok_is_word (B := B) (P := l.prog) (w := w) (mg := mg) (base := base) N_is_word m_len m_MOST_LETTERS m_all
  have F_ascends := ok_ascends (B := B) (P := l.prog) (w := w) (mg := mg) (base := base) N_ascends m_zip m_all
  have F_is_feature := ok_is_feature (B := B) (P := l.prog) (w := w) (mg := mg) (base := base) N_is_feature m_FEWEST_VALUES m_len m_MOST_VALUES m_all F_ascends m_ascends k_ascends b_ascends F_is_word m_is_word k_is_word b_is_word
  have F_Catalog_features := ok_Catalog_features (B := B) (P := l.prog) (w := w) (mg := mg) (base := base) N_Catalog_features A_Catalog__features
  have F_Catalog_names := ok_Catalog_names (B := B) (P := l.prog) (w := w) (mg := mg) (base := base) N_Catalog_names A_Catalog__values m_tuple
  have F_Catalog__contains__ := ok_Catalog__contains__ (B := B) (P := l.prog) (w := w) (mg := mg) (base := base) N_Catalog__contains__ A_Catalog__values
  have F_Catalog__len__ := ok_Catalog__len__ (B := B) (P := l.prog) (w := w) (mg := mg) (base := base) N_Catalog__len__ A_Catalog__features m_len
  have F_Catalog__eq__ := ok_Catalog__eq__ (B := B) (P := l.prog) (w := w) (mg := mg) (base := base) N_Catalog__eq__ I_Catalog m_Catalog m_isinstance A_Catalog__features
  have F_Catalog__getitem__ := ok_Catalog__getitem__ (B := B) (P := l.prog) (w := w) (mg := mg) (base := base) N_Catalog__getitem__ A_Catalog__values EF_UnknownFeature X_UnknownFeature m_UnknownFeature k_UnknownFeature r_UnknownFeature
  have F_Catalog__init__ := ok_Catalog__init__ (B := B) (P := l.prog) (w := w) (mg := mg) (base := base) N_Catalog__init__ m_len F_InvalidCatalog__init__ X_InvalidCatalog i_InvalidCatalog t_InvalidCatalog b_InvalidCatalog__init__ m_InvalidCatalog m_enumerate m_MOST_FEATURES A_Catalog__features m_dict A_Catalog__values F_is_feature m_is_feature k_is_feature b_is_feature
  have M_Catalog__contains__ : OwnP B l.prog w mg base 3 "__contains__" 2 "Catalog" (g_Catalog__contains__ B) := ⟨⟨_, _, _, y_Catalog__contains__, f_Catalog__contains__, fi_Catalog__contains__, kp_Catalog__contains__, clC, b_Catalog__contains__, rfl, F_Catalog__contains__⟩⟩
  have M_Catalog__len__ : OwnP B l.prog w mg base 3 "__len__" 1 "Catalog" (g_Catalog__len__ B) := ⟨⟨_, _, _, y_Catalog__len__, f_Catalog__len__, fi_Catalog__len__, kp_Catalog__len__, clC, b_Catalog__len__, rfl, F_Catalog__len__⟩⟩
  have M_Catalog__eq__ : OwnP B l.prog w mg base 3 "__eq__" 2 "Catalog" (g_Catalog__eq__ B) := ⟨⟨_, _, _, y_Catalog__eq__, f_Catalog__eq__, fi_Catalog__eq__, kp_Catalog__eq__, clC, b_Catalog__eq__, rfl, F_Catalog__eq__⟩⟩
  have M_Catalog__getitem__ : OwnP B l.prog w mg base 3 "__getitem__" 2 "Catalog" (g_Catalog__getitem__ B) := ⟨⟨_, _, _, y_Catalog__getitem__, f_Catalog__getitem__, fi_Catalog__getitem__, kp_Catalog__getitem__, clC, b_Catalog__getitem__, rfl, F_Catalog__getitem__⟩⟩
  have A_Catalog_features : AtP B l.prog w mg base 3 "features" "Catalog" (g_Catalog_features B) := ⟨clC, _, _, _, _, ⟨p1_features, p2_features, p3_features, _, p4_features⟩, b_Catalog_features, rfl, F_Catalog_features⟩
  have A_Catalog_names : AtP B l.prog w mg base 3 "names" "Catalog" (g_Catalog_names B) := ⟨clC, _, _, _, _, ⟨p1_names, p2_names, p3_names, _, p4_names⟩, b_Catalog_names, rfl, F_Catalog_names⟩
  have F__law_mix := ok__law_mix (B := B) (P := l.prog) (w := w) (mg := mg) (base := base) N__law_mix m_int m_list
  have F__law_next := ok__law_next (B := B) (P := l.prog) (w := w) (mg := mg) (base := base) N__law_next m_int m_len m_max
  have F__law_alike := ok__law_alike (B := B) (P := l.prog) (w := w) (mg := mg) (base := base) N__law_alike m__law_alike k__law_alike b__law_alike I_dict m_dict m_isinstance I_tuple_list m_list m_tuple I_list m_len m_range I_str m_str I_int m_int I_bool m_bool 6
  have F__law_features := ok__law_features (B := B) (P := l.prog) (w := w) (mg := mg) (base := base) N__law_features m_range m_len m_tuple F__law_next m__law_next k__law_next b__law_next
  have F__law_index := ok__law_index (B := B) (P := l.prog) (w := w) (mg := mg) (base := base) N__law_index K_Catalog m_Catalog b_Catalog__init__ m_InvalidCatalog x_InvalidCatalog T_InvalidCatalog n_InvalidCatalog_index F_Catalog__init__
  exact ok_law (B := B) (P := l.prog) (w := w) (mg := mg) (base := base) N_law m_range K_Catalog m_Catalog b_Catalog__init__ M_Catalog__len__ m_len m_tuple M_Catalog__getitem__ x_InvalidCatalog M_Catalog__eq__ E_Catalog A_Catalog_features A_Catalog_names M_Catalog__contains__ m_UnknownFeature x_UnknownFeature F_Catalog__init__ F__law_alike m__law_alike k__law_alike b__law_alike F__law_features m__law_features k__law_features b__law_features F__law_index m__law_index k__law_index b__law_index F__law_mix m__law_mix k__law_mix b__law_mix F__law_next m__law_next k__law_next b__law_next (hev B x_InvalidCatalog x_UnknownFeature)
end K1

set_option Elab.async false
set_option linter.all false
set_option maxRecDepth 100000
namespace K1
open PySem PySem.Spec PyProof.Rows L2 Evl Dv
theorem at_emod {α : Type} {xs : List α} {k : Int} (h0 : 0 ≤ k) (h1 : k < xs.length) : ∃ x, atI xs k = some x ∧ xs[k.toNat]? = some x ∧ ixN xs.length k = some k.toNat := by
  have e : ixN xs.length k = some k.toNat := by
    unfold ixN
    rw [if_pos h0, if_pos h1]
  have hlt : k.toNat < xs.length := by omega
  refine ⟨xs[k.toNat], ?_, List.getElem?_eq_getElem hlt, e⟩
  unfold atI
  rw [e]
  exact List.getElem?_eq_getElem hlt
theorem mod_f {B : Bs} {i j : Int} (h : 0 < j) : (o_modI B).f (.int i) (.int j) = some (.int (i % j)) := if_pos h
theorem div_f {B : Bs} {i j : Int} (h : CDiv i j) : (o_divI B).f (.int i) (.int j) = some (.int (i / j)) := if_pos h
theorem mul_f {B : Bs} {i j : Int} (h : CMul i j) : (o_mulI B).f (.int i) (.int j) = some (.int (i * j)) := if_pos h
theorem pow_f {B : Bs} {i j : Int} (h : CPow i j) : (o_powI B).f (.int i) (.int j) = some (.int (i ^ j.toNat)) := if_pos h
theorem next_ok {B : Bs} {n : Int} {s : HS} (h0 : 0 < n) (h1 : n < 1073741824) (hl : s.cells.length ≤ 63) :
    ∃ v s', g__law_next B [.hnd, .int n] s = .ret (.int v) s' ∧ 0 ≤ v ∧ v < n ∧ s'.cells.length = s.cells.length := by
  have hl2 : s.cells.length + 1 ≤ 100000 := by omega
  let m : Int := if (s.cells.length : Int) > 1 then (s.cells.length : Int) else 1
  have hm : 0 < m := by show 0 < (if (s.cells.length : Int) > 1 then (s.cells.length : Int) else 1); split <;> omega
  have hm2 : m ≤ (s.cells.length : Int) + 1 := by show (if (s.cells.length : Int) > 1 then (s.cells.length : Int) else 1) ≤ _; split <;> omega
  have k0 : 0 ≤ s.ix % m := Int.emod_nonneg _ (by omega)
  have k1 : s.ix % m < m := Int.emod_lt_of_pos _ hm
  obtain ⟨x, a1, a2, a3⟩ := at_emod (xs := (s.cells ++ [0]).map D.int) k0 (by simp; omega)
  obtain ⟨y, b1, b2, b3⟩ := at_emod (xs := s.cells ++ [0]) k0 (by simp; omega)
  have hx : x = .int y := by
    rw [List.getElem?_map, b2] at a2
    exact (Option.some.inj a2).symm
  subst hx
  have e1 : (XE.ix [] (XE.hcat B 0) (XE.op2 (o_modI B) (XE.blt (o_int B) [XE.h2 B 0]) (XE.blt (o_max2 B) [XE.int B 1, XE.hlen B 0]))).ev [.fr .hnd, .fr (.int n), .no] s = .ret (.int y) s :=
    ev_ixL (ev_hcat rfl hl2) (ev_op2 (ev_blt1 (ev_h2 rfl) rfl) (ev_blt2 rfl (ev_hlen rfl) rfl) (mod_f hm)) a1
  have hev : ∃ v s', (p__law_next B).ev [.fr .hnd, .fr (.int n), .no] s = .ret (.int v) s' ∧ 0 ≤ v ∧ v < n ∧ s'.cells.length = s.cells.length := by
    unfold p__law_next
    rw [ev_seq (ev_set (i := 2) e1)]
    have hp : CPow 10 18 := ⟨by decide, by decide, by decide⟩
    by_cases hc : (10 : Int) ^ 18 ≤ y
    · have t1 : (XT.ofE (XE.op2 (o_geI B) (XE.var B 2) (XE.op2 (o_powI B) (XE.int B 10) (XE.int B 18)))).ev [.fr .hnd, .fr (.int n), .fr (.int y)] s = .ret (.bl true) s :=
        ev_ofE (ev_op2 (ev_var rfl) (ev_op2 rfl rfl (pow_f hp)) (by show some (D.bl (decide ((10 : Int) ^ 18 ≤ y))) = _; rw [decide_eq_true hc]))
      have hlen : 0 < s.cells.length := by
        rcases Nat.eq_zero_or_pos s.cells.length with z | z
        · exfalso
          have hnil : s.cells = [] := List.eq_nil_of_length_eq_zero z
          rw [hnil] at b2
          have : (s.ix % m).toNat = 0 := by
            rcases Nat.eq_zero_or_pos (s.ix % m).toNat with z2 | z2
            · exact z2
            · rw [List.getElem?_eq_none (by show 1 ≤ _; exact z2)] at b2; cases b2
          rw [this] at b2
          cases b2
          exact absurd hc (by decide)
        · exact z
      have hlI : (0 : Int) < (s.cells.length : Nat) := by omega
      obtain ⟨w, c1, c2, c3⟩ := at_emod (xs := s.cells) (k := s.ix % (s.cells.length : Nat)) (Int.emod_nonneg _ (by omega)) (Int.emod_lt_of_pos _ hlI)
      refine ⟨y % n, { s with cells := s.cells.set (s.ix % (s.cells.length : Nat)).toNat (y / n) }, ?_, Int.emod_nonneg _ (by omega), Int.emod_lt_of_pos _ h0, by simp⟩
      show (XS.seq _ _).ev [.fr .hnd, .fr (.int n), .fr (.int y)] s = _
      have body : (XS.ite (XT.ofE (XE.op2 (o_geI B) (XE.var B 2) (XE.op2 (o_powI B) (XE.int B 10) (XE.int B 18)))) (XS.seq (XS.hc 0 (XE.op2 (o_modI B) (XE.blt (o_int B) [XE.h2 B 0]) (XE.hlen B 0)) (XE.op2 (o_divI B) (XE.var B 2) (XE.var B 1))) (XS.ret (XE.op2 (o_modI B) (XE.blt (o_int B) [XE.var B 2]) (XE.var B 1)))) (XS.pass B)).ev [.fr .hnd, .fr (.int n), .fr (.int y)] s = .ret (.int (y % n)) { s with cells := s.cells.set (s.ix % (s.cells.length : Nat)).toNat (y / n) } := by
        rw [ev_iteT t1, ev_seq (ev_hc rfl (ev_op2 (ev_var rfl) (ev_var rfl) (div_f ⟨h0, h1⟩)) (ev_op2 (ev_blt1 (ev_h2 rfl) rfl) (ev_hlen rfl) (mod_f hlI)) c3)]
        exact ev_ret (ev_op2 (ev_blt1 (ev_var rfl) rfl) (ev_var rfl) (mod_f h0))
      show (Out.bind _ _) = _
      exact (congrArg (fun o => Out.bind o _) body).trans rfl
    · have t1 : (XT.ofE (XE.op2 (o_geI B) (XE.var B 2) (XE.op2 (o_powI B) (XE.int B 10) (XE.int B 18)))).ev [.fr .hnd, .fr (.int n), .fr (.int y)] s = .ret (.bl false) s :=
        ev_ofE (ev_op2 (ev_var rfl) (ev_op2 rfl rfl (pow_f hp)) (by show some (D.bl (decide ((10 : Int) ^ 18 ≤ y))) = _; rw [decide_eq_false hc]))
      have hstep : (XS.ite (XT.ofE (XE.op2 (o_geI B) (XE.var B 2) (XE.op2 (o_powI B) (XE.int B 10) (XE.int B 18)))) (XS.seq (XS.hc 0 (XE.op2 (o_modI B) (XE.blt (o_int B) [XE.h2 B 0]) (XE.hlen B 0)) (XE.op2 (o_divI B) (XE.var B 2) (XE.var B 1))) (XS.ret (XE.op2 (o_modI B) (XE.blt (o_int B) [XE.var B 2]) (XE.var B 1)))) (XS.pass B)).ev [.fr .hnd, .fr (.int n), .fr (.int y)] s = .nxt [.fr .hnd, .fr (.int n), .fr (.int y)] s := ev_iteF t1
      refine ⟨((s.st * 48271 + y * 69621 + 11) % 2147483647 / 7) % n, { s with st := (s.st * 48271 + y * 69621 + 11) % 2147483647, ix := s.ix + 1 }, ?_, Int.emod_nonneg _ (by omega), Int.emod_lt_of_pos _ h0, rfl⟩
      show (XS.seq _ _).ev [.fr .hnd, .fr (.int n), .fr (.int y)] s = _
      rw [ev_seq hstep, ev_seq (ev_sh0 rfl (ev_op2 (ev_blt1 (ev_op2 (ev_op2 (ev_op2 (ev_h0 rfl) rfl (mul_f (.inr ⟨by decide, by decide⟩))) (ev_op2 (ev_var rfl) rfl (mul_f (.inr ⟨by decide, by decide⟩))) rfl) rfl rfl) rfl) rfl (mod_f (by decide)))), ev_seq (ev_sh2 rfl (ev_op2 (ev_h2 rfl) rfl rfl))]
      exact ev_ret (ev_op2 (ev_blt1 (ev_op2 (ev_h0 rfl) rfl (div_f ⟨by decide, by decide⟩)) rfl) (ev_var rfl) (mod_f h0))
  obtain ⟨v, s', e, r⟩ := hev
  refine ⟨v, s', ?_, r⟩
  show ((p__law_next B).ev [.fr .hnd, .fr (.int n), .no] s).res = _
  rw [e]
  exact rfl
end K1

set_option Elab.async false
set_option linter.all false
set_option maxRecDepth 100000
namespace K1
open PySem PySem.Spec PyProof.Rows L2 Evl Dv
def W5 : List Str := ["blue", "gray", "pink", "red", "tan"]
def L6 : List Str := ["hue", "size", "age", "kind", "lid", "bag"]
def sD (w : List Str) : List D := w.map D.str
def wD (w : List Str) : D := .tup true (sD w)
def pD (n : Str) (w : List Str) : D := .tup true [.str n, wD w]
def Wok (w : List Str) : Prop := w.Sublist W5 ∧ 2 ≤ w.length
theorem popAt_ok {ds : List D} {k : Int} (h0 : 0 ≤ k) (h1 : k < ds.length) (hl : ds.length ≤ 1000) : popAtD ds k = some (ds.eraseIdx k.toNat) := by
  unfold popAtD
  rw [seqIndex_of h0 h1]
  exact if_pos ⟨by omega, by omega, by omega⟩
theorem sD_erase (w : List Str) (k : Nat) : (sD w).eraseIdx k = sD (w.eraseIdx k) := by
  unfold sD
  induction w generalizing k with
  | nil => simp
  | cons a w ih => cases k with
    | zero => simp
    | succ k => simp [ih]
def wt (B : Bs) : XT B := .ofE (.op2 (o_gtI B) (.len [] (.var B 4)) (.op2 (o_add B) (.int B 2) (.call 2 (g__law_next B) [.var B 0, .int B 3] rfl)))
def wb (B : Bs) : XS B := .popAt 4 (.view (.call 2 (g__law_next B) [.var B 0, .len [] (.var B 4)] rfl))
theorem while_ok {B : Bs} {a b : Sl} : ∀ (n : Nat) (w : List Str) (s : HS), w.length ≤ n → Wok w → s.cells.length ≤ 63 →
    ∃ w' s', whileL (XT.view (wt B)).ev (wb B).ev n [.fr .hnd, .fr (.int 6), a, b, .lo (sD w)] s = .nxt [.fr .hnd, .fr (.int 6), a, b, .lo (sD w')] s' ∧ Wok w' ∧ s'.cells.length = s.cells.length
  | 0, w, s, hn, hw, hs => by have := hw.2; omega
  | n + 1, w, s, hn, hw, hs => by
    obtain ⟨v, s1, e1, v0, v1, hc1⟩ := next_ok (B := B) (n := 3) (s := s) (by decide) (by decide) hs
    have t1 : (XT.view (wt B)).ev [.fr .hnd, .fr (.int 6), a, b, .lo (sD w)] s = .ret (.bl (decide ((2 + v : Int) < ((sD w).length : Nat)))) s1 :=
      ev_viewT (ev_ofE (ev_op2 (ev_lenL (ev_var rfl)) (ev_op2 rfl (ev_call2 (ev_var rfl) rfl e1) rfl) rfl))
    have hl : (sD w).length = w.length := by simp [sD]
    by_cases hc : (2 + v : Int) < ((sD w).length : Nat)
    · rw [decide_eq_true hc] at t1
      have hlen : 2 < w.length := by rw [hl] at hc; omega
      have hs1 : s1.cells.length ≤ 63 := by rw [hc1]; exact hs
      obtain ⟨k, s2, e2, k0, k1, hc2⟩ := next_ok (B := B) (n := ((sD w).length : Nat)) (s := s1) (by rw [hl]; omega) (by
        have := hw.1.length_le
        have h5 : W5.length = 5 := rfl
        rw [hl]; omega) hs1
      have e3 : (wb B).ev [.fr .hnd, .fr (.int 6), a, b, .lo (sD w)] s1 = .nxt [.fr .hnd, .fr (.int 6), a, b, .lo (sD (w.eraseIdx k.toNat))] s2 := by
        refine (ev_pop (ds := sD w) rfl (ev_viewE (ev_call2 (ev_var rfl) (ev_lenL (ev_var rfl)) e2) rfl) (popAt_ok k0 k1 (by
          have := hw.1.length_le
          have h5 : W5.length = 5 := rfl
          rw [hl]; omega))).trans ?_
        rw [sD_erase]
        exact rfl
      have hkl : k.toNat < w.length := by rw [hl] at k1; omega
      have le := List.length_eraseIdx_of_lt hkl
      obtain ⟨w', s', e4, hw', hc'⟩ := while_ok (B := B) (a := a) (b := b) n (w.eraseIdx k.toNat) s2 (by omega) ⟨(List.eraseIdx_sublist w k.toNat).trans hw.1, by omega⟩ (by rw [hc2]; exact hs1)
      refine ⟨w', s', ?_, hw', by rw [hc', hc2, hc1]⟩
      exact (while_go t1 e3).trans e4
    · rw [decide_eq_false hc] at t1
      refine ⟨w, s1, ?_, hw, hc1⟩
      exact while_end t1
def rows (ws : List (List Str)) : List D := List.zipWith pD L6 ws
theorem rows_snoc {w : List Str} : ∀ {ws : List (List Str)} (h6 : ws.length < 6), rows ws ++ [pD (L6[ws.length]'h6) w] = rows (ws ++ [w])
  | [], _ => rfl
  | [_], _ => rfl
  | [_, _], _ => rfl
  | [_, _, _], _ => rfl
  | [_, _, _, _], _ => rfl
  | [_, _, _, _, _], _ => rfl
  | _ :: _ :: _ :: _ :: _ :: _ :: _, h => by simp at h; omega
def fD (ws : List (List Str)) : D := .tup true (rows ws)
structure Fok (ws : List (List Str)) : Prop where
  len : ws.length ≤ 6
  pos : 1 ≤ ws.length
  wok : ∀ w ∈ ws, Wok w
def fb (B : Bs) : XS B := .seq (.setN 4 (.lst [.str B "blue", .str B "gray", .str B "pink", .str B "red", .str B "tan"])) (.seq (.while 1000 (.view (wt B)) (wb B)) (.frz 4 (.app 2 (.tup [(.ix [] (.ofN (.lst [(.str B "hue"), (.str B "size"), (.str B "age"), (.str B "kind"), (.str B "lid"), (.str B "bag")])) (.var B 3)), (.blt (o_tupA B) [(.var B 4)])]))))
theorem fb_ok {B : Bs} {ws : List (List Str)} {b : Sl} {i : Nat} {s : HS} (hi : ws.length = i) (h6 : i < 6) (hs : s.cells.length ≤ 63) :
    ∃ w s', (fb B).ev [.fr .hnd, .fr (.int 6), .lo (rows ws), .fr (.int (i : Nat)), b] s = .nxt [.fr .hnd, .fr (.int 6), .lo (rows (ws ++ [w])), .fr (.int (i : Nat)), .fr (.lst (sD w))] s' ∧ Wok w ∧ s'.cells.length = s.cells.length := by
  obtain ⟨w, s1, e1, hw, hc⟩ := while_ok (B := B) (a := .lo (rows ws)) (b := .fr (.int (i : Nat))) 1000 W5 s (by decide) ⟨List.Sublist.refl _, by decide⟩ hs
  refine ⟨w, s1, ?_, hw, hc⟩
  have e0 : (XS.setN 4 (XN.lst [XE.str B "blue", XE.str B "gray", XE.str B "pink", XE.str B "red", XE.str B "tan"])).ev [.fr .hnd, .fr (.int 6), .lo (rows ws), .fr (.int (i : Nat)), b] s = .nxt [.fr .hnd, .fr (.int 6), .lo (rows ws), .fr (.int (i : Nat)), .lo (sD W5)] s := rfl
  unfold fb
  rw [ev_seq e0, ev_seq (a := XS.while 1000 (XT.view (wt B)) (wb B)) e1]
  have hL : atI (L6.map D.str) (i : Nat) = some (.str (L6[i]'h6)) := by
    match i, h6 with
    | 0, _ => rfl
    | 1, _ => rfl
    | 2, _ => rfl
    | 3, _ => rfl
    | 4, _ => rfl
    | 5, _ => rfl
  have hrl : (rows ws).length < 100000 := by unfold rows; rw [List.length_zipWith]; have : L6.length = 6 := rfl; omega
  have hsn : rows ws ++ [pD (L6[i]'h6) w] = rows (ws ++ [w]) := by
    subst hi
    exact rows_snoc h6
  have e5 : (XE.tup [(.ix [] (.ofN (.lst [(.str B "hue"), (.str B "size"), (.str B "age"), (.str B "kind"), (.str B "lid"), (.str B "bag")])) (.var B 3)), (.blt (o_tupA B) [(.var B 4)])]).ev [.fr .hnd, .fr (.int 6), .lo (rows ws), .fr (.int (i : Nat)), .fr (.lst (sD w))] s1 = .ret (pD (L6[i]'h6) w) s1 :=
    ev_tup2 (ev_ixL (ds := L6.map D.str) rfl (ev_var rfl) hL) (ev_blt1 (ev_var rfl) rfl)
  refine ev_frz ((ev_app (ds := rows ws) (d := pD (L6[i]'h6) w) (s1 := s1) rfl hrl e5).trans ?_)
  rw [hsn]
  exact rfl
theorem range_drop (n : Nat) : ∀ i, i ≤ n → ((List.range n).map fun (i : Nat) => D.int (0 + (i : Int))).drop i = ((List.range' i (n - i)).map fun (i : Nat) => D.int (0 + (i : Int))) := by
  intro i hi
  rw [← List.map_drop, List.range_eq_range', List.drop_range']
  simp
theorem fors_ok {B : Bs} : ∀ (k i : Nat) (ws : List (List Str)) (b c : Sl) (s : HS), ws.length = i → i + k ≤ 6 → (∀ w ∈ ws, Wok w) → s.cells.length ≤ 63 →
    ∃ ws' b' c' s', forL (B := B) (.name B 3) (fb B).ev ((List.range' i k).map fun (i : Nat) => D.int (0 + (i : Int))) [.fr .hnd, .fr (.int 6), .lo (rows ws), b, c] s = .nxt [.fr .hnd, .fr (.int 6), .lo (rows ws'), b', c'] s' ∧ ws'.length = i + k ∧ (∀ w ∈ ws', Wok w) ∧ s'.cells.length = s.cells.length
  | 0, i, ws, b, c, s, hi, _, hw, hs => ⟨ws, b, c, s, rfl, hi, hw, rfl⟩
  | k + 1, i, ws, b, c, s, hi, h6, hw, hs => by
    obtain ⟨w, s1, e1, hw1, hc1⟩ := fb_ok (B := B) (b := c) (s := s) hi (by omega) hs
    obtain ⟨ws', b', c', s', e2, hl, hw2, hc2⟩ := fors_ok (B := B) k (i + 1) (ws ++ [w]) (.fr (.int (i : Nat))) (.fr (.lst (sD w))) s1 (by simp [hi]) (by omega) (fun x hx => by
      rcases List.mem_append.mp hx with hx | hx
      · exact hw x hx
      · rw [List.mem_singleton.mp hx]; exact hw1) (by rw [hc1]; exact hs)
    refine ⟨ws', b', c', s', ?_, by omega, hw2, by rw [hc2, hc1]⟩
    have e3 : (List.range' i (k + 1)).map (fun (i : Nat) => D.int (0 + (i : Int))) = D.int (0 + (i : Int)) :: (List.range' (i + 1) k).map fun (i : Nat) => D.int (0 + (i : Int)) := rfl
    rw [e3]
    have ez : (0 + (i : Int)) = (i : Int) := by omega
    refine (for_cons (l := [(3, .int (0 + (i : Int)))]) rfl (Γ2 := [.fr .hnd, .fr (.int 6), .lo (rows (ws ++ [w])), .fr (.int (i : Nat)), .fr (.lst (sD w))]) (s2 := s1) ?_).trans e2
    show (fb B).ev [.fr .hnd, .fr (.int 6), .lo (rows ws), .fr (.int (0 + (i : Int))), c] s = _
    rw [ez]
    exact e1
theorem features_ok {B : Bs} {s : HS} (hs : s.cells.length ≤ 63) : ∃ ws s', g__law_features B [.hnd, .int 6] s = .ret (fD ws) s' ∧ Fok ws ∧ s'.cells.length = s.cells.length := by
  obtain ⟨v, s1, e1, v0, v1, hc1⟩ := next_ok (B := B) (n := 6) (s := s) (by decide) (by decide) hs
  obtain ⟨ws, b', c', s2, e2, hl, hw, hc2⟩ := fors_ok (B := B) (1 + v).toNat 0 [] .no .no s1 rfl (by omega) (fun w h => nomatch h) (by rw [hc1]; exact hs)
  refine ⟨ws, s2, ?_, ⟨by omega, by omega, hw⟩, by rw [hc2, hc1]⟩
  have ei : (XI.range1 (XE.op2 (o_add B) (XE.int B 1) (XE.call 2 (g__law_next B) [XE.var B 0, XE.var B 1] rfl))).ev [.fr .hnd, .fr (.int 6), .lo [], .no, .no] s = .ret (.lst (rangeD 0 (1 + v))) s1 := by
    have e0 : (XE.op2 (o_add B) (XE.int B 1) (XE.call 2 (g__law_next B) [XE.var B 0, XE.var B 1] rfl)).ev [.fr .hnd, .fr (.int 6), .lo [], .no, .no] s = .ret (.int (1 + v)) s1 := ev_op2 rfl (ev_call2 (ev_var rfl) (ev_var rfl) e1) rfl
    show ((XE.op2 (o_add B) (XE.int B 1) (XE.call 2 (g__law_next B) [XE.var B 0, XE.var B 1] rfl)).ev [.fr .hnd, .fr (.int 6), .lo [], .no, .no] s).bind _ = _
    rw [e0]
    exact if_pos ⟨by omega, by omega⟩
  have er : rangeD 0 (1 + v) = (List.range' 0 (1 + v).toNat).map fun (i : Nat) => D.int (0 + (i : Int)) := by
    unfold rangeD
    rw [Int.sub_zero, List.range_eq_range']
  have ef : (p__law_features B).ev [.fr .hnd, .fr (.int 6), .no, .no, .no] s = .ret (fD ws) s2 := by
    unfold p__law_features
    have ea : (XS.setN 2 (XN.lst (B := B) [])).ev [.fr .hnd, .fr (.int 6), .no, .no, .no] s = .nxt [.fr .hnd, .fr (.int 6), .lo [], .no, .no] s := rfl
    rw [ev_seq ea]
    have eb : (XS.for (XI.range1 (XE.op2 (o_add B) (XE.int B 1) (XE.call 2 (g__law_next B) [XE.var B 0, XE.var B 1] rfl))) (.name B 3) (fb B)).ev [.fr .hnd, .fr (.int 6), .lo [], .no, .no] s = .nxt [.fr .hnd, .fr (.int 6), .lo (rows ws), b', c'] s2 := by
      rw [ev_for ei, er]
      exact e2
    refine (ev_seq (a := XS.for _ (.name B 3) (fb B)) eb).trans ?_
    refine ev_frz (ev_ret (ev_blt1 (ev_var (d := .lst (rows ws)) rfl) rfl))
  show ((p__law_features B).ev [.fr .hnd, .fr (.int 6), .no, .no, .no] s).res = _
  rw [ef]
  exact rfl
end K1

set_option Elab.async false
set_option linter.all false
set_option maxRecDepth 100000
namespace K1
open PySem PySem.Spec PyProof.Rows L2 Evl Dv
/-- plain data of a depth below n -/
def Al : Nat → D → Prop
  | 0, _ => False
  | n + 1, d => (∃ x, d = .str x ∧ SeqAt.shaped (.str x) = true) ∨ (∃ i, d = .int i) ∨ (∃ pl ds, d = .tup pl ds ∧ ds.length ≤ 1000 ∧ ∀ z ∈ ds, Al n z) ∨ ∃ ds, d = .lst ds ∧ ds.length ≤ 1000 ∧ ∀ z ∈ ds, Al n z
theorem eqv_str (x : Str) : PyData.eqv (.str x) (.str x) = true := by simp [PyData.eqv]
theorem eqv_int (x : Int) : PyData.eqv (.int x) (.int x) = true := by simp [PyData.eqv]
theorem eq_str {x : Str} {s : HS} (h : SeqAt.shaped (.str x) = true) : eqE false [] (.str x) (.str x) s = .ret (.bl true) s := by
  show Res.opt (if SeqAt.shaped (.str x) = true ∧ SeqAt.shaped (.str x) = true then some (.bl (PyData.eqv (.str x) (.str x))) else none) s = _
  rw [if_pos ⟨h, h⟩, eqv_str]
  exact rfl
theorem eq_int {x : Int} {s : HS} : eqE false [] (.int x) (.int x) s = .ret (.bl true) s := by
  show Res.opt (if SeqAt.shaped (.int x) = true ∧ SeqAt.shaped (.int x) = true then some (.bl (PyData.eqv (.int x) (.int x))) else none) s = _
  rw [if_pos ⟨rfl, rfl⟩, eqv_int]
  exact rfl
theorem eq_bl {x : Bool} {s : HS} : eqE false [] (.bl x) (.bl x) s = .ret (.bl true) s := by cases x <;> rfl
theorem ne_bl {x : Bool} {s : HS} : eqE true [] (.bl x) (.bl x) s = .ret (.bl false) s := by cases x <;> rfl
theorem ne_int {x : Int} {s : HS} : eqE true [] (.int x) (.int x) s = .ret (.bl false) s := by
  show Res.opt (if SeqAt.shaped (.int x) = true ∧ SeqAt.shaped (.int x) = true then some (.bl (!PyData.eqv (.int x) (.int x))) else none) s = _
  rw [if_pos ⟨rfl, rfl⟩, eqv_int]
  exact rfl
def lt (B : Bs) (G : Gf) : XT B := .not (.ofE (.call 2 (G) [(.ix [] (.var B 0) (.var B 2)), (.ix [] (.var B 1) (.var B 2))] rfl))
theorem lcs_ok {B : Bs} {G : Gf} {d : D} {ds : List D} {s : HS} (hd : (∃ pl, d = .tup pl ds) ∨ d = .lst ds) (hG : ∀ z ∈ ds, ∀ s, G [z, z] s = .ret (.bl true) s) : ∀ k i, i + k = ds.length →
    lcL (XG.name B 2).as (lt B G).ev (XE.var B 2).ev [2] [.fr d, .fr d, .no] ((List.range' i k).map fun (i : Nat) => D.int (0 + (i : Int))) s = some ([], s)
  | 0, i, _ => rfl
  | k + 1, i, h => by
    have e3 : (List.range' i (k + 1)).map (fun (i : Nat) => D.int (0 + (i : Int))) = D.int (0 + (i : Int)) :: (List.range' (i + 1) k).map fun (i : Nat) => D.int (0 + (i : Int)) := rfl
    rw [e3]
    obtain ⟨x, a1, a2, _⟩ := at_emod (xs := ds) (k := 0 + (i : Int)) (by omega) (by omega)
    have hx : x ∈ ds := List.mem_of_getElem? a2
    refine (lc_skip (l := [(2, .int (0 + (i : Int)))]) rfl rfl (ev_notT (k := true) (ev_ofE (ev_call2 (s1 := s) ?_ ?_ (hG x hx s))))).trans (lcs_ok hd hG k (i + 1) (by omega))
    · rcases hd with ⟨pl, rfl⟩ | rfl
      · exact ev_ixT (ev_var rfl) (ev_var rfl) a1
      · exact ev_ixL (ev_var rfl) (ev_var rfl) a1
    · rcases hd with ⟨pl, rfl⟩ | rfl
      · exact ev_ixT (ev_var rfl) (ev_var rfl) a1
      · exact ev_ixL (ev_var rfl) (ev_var rfl) a1
theorem alike_seq {B : Bs} {G : Gf} {d : D} {ds : List D} {s : HS} (hd : (∃ pl, d = .tup pl ds) ∨ d = .lst ds) (hl : ds.length ≤ 1000) (hG : ∀ z ∈ ds, ∀ s, G [z, z] s = .ret (.bl true) s) : (p__law_alike B G).ev [.fr d, .fr d, .no] s = .ret (.bl true) s := by
  have k1 : isiE isi_dict d s = .ret (.bl false) s := by rcases hd with ⟨pl, rfl⟩ | rfl <;> rfl
  have k2 : isiE isi_tuple_list d s = .ret (.bl true) s := by rcases hd with ⟨pl, rfl⟩ | rfl <;> rfl
  obtain ⟨bb, k3⟩ : ∃ bb, isiE isi_list d s = .ret (.bl bb) s := by rcases hd with ⟨pl, rfl⟩ | rfl <;> exact ⟨_, rfl⟩
  have len : ∀ {i : Nat}, ([Sl.fr d, .fr d, .no] : Gm)[i]? = some (.fr d) → (XE.len [] (XE.var B i)).ev [.fr d, .fr d, .no] s = .ret (.int (ds.length : Nat)) s := fun {i} h => by
    rcases hd with ⟨pl, rfl⟩ | rfl
    · exact ev_lenT (ev_var h)
    · exact ev_lenL (ev_var h)
  have e1 : (XS.ite (XT.ofE (XE.isi isi_dict (XE.var B 1))) (XS.nv B) (XS.pass B)).ev [.fr d, .fr d, .no] s = .nxt [.fr d, .fr d, .no] s := ev_iteF (ev_ofE (ev_isi (ev_var rfl) k1))
  unfold p__law_alike
  rw [ev_seq e1]
  have er : rangeD 0 (ds.length : Nat) = (List.range' 0 ds.length).map fun (i : Nat) => D.int (0 + (i : Int)) := by
    unfold rangeD
    rw [Int.sub_zero, List.range_eq_range', Int.toNat_natCast]
  have e2 : (XE.eq false [] (.ofN (.lc (.range1 (.len [] (.var B 1))) (.name B 2) (lt B G) (.var B 2) [2])) (.ofN (.lst []))).ev [.fr d, .fr d, .no] s = .ret (.bl true) s :=
    ev_eq (ev_lc (ev_range1 (len rfl) (by constructor <;> omega)) (by simp [rangeD]; omega) (by rw [er]; exact lcs_ok hd hG ds.length 0 (by omega))) (e := .lst []) (s2 := s) rfl rfl
  have body : ∀ {a b : XS B}, (XS.seq (.ite (.ofE (.isiT isi_tuple_list (.var B 1))) (.seq (.ite ((.or (.not (.ofE (.isiT isi_tuple_list (.var B 0)))) (.ofE (.eq true [] (.isi isi_list (.var B 0)) (.isi isi_list (.var B 1)))))) a (.pass B)) (.seq (.ite (.ofE (.eq true [] (.len [] (.var B 0)) (.len [] (.var B 1)))) a (.pass B)) (.ret (.eq false [] (.ofN (.lc (.range1 (.len [] (.var B 1))) (.name B 2) (lt B G) (.var B 2) [2])) (.ofN (.lst [])))))) (.pass B)) b).ev [.fr d, .fr d, .no] s = .ret (.bl true) s := fun {a b} => by
    have i1 := ev_iteT (B := B) (a := (.seq (.ite ((.or (.not (.ofE (.isiT isi_tuple_list (.var B 0)))) (.ofE (.eq true [] (.isi isi_list (.var B 0)) (.isi isi_list (.var B 1)))))) a (.pass B)) (.seq (.ite (.ofE (.eq true [] (.len [] (.var B 0)) (.len [] (.var B 1)))) a (.pass B)) (.ret (.eq false [] (.ofN (.lc (.range1 (.len [] (.var B 1))) (.name B 2) (lt B G) (.var B 2) [2])) (.ofN (.lst []))))))) (b := .pass B) (ev_ofE (ev_isiT (p := XE.var B 1) (Γ := [.fr d, .fr d, .no]) (s := s) (ev_var rfl) k2))
    have i2 := ev_iteF (B := B) (a := a) (b := .pass B) (ev_orF (ev_notT (ev_ofE (ev_isiT (p := XE.var B 0) (Γ := [.fr d, .fr d, .no]) (s := s) (ev_var rfl) k2))) (ev_ofE (ev_eq (ev_isi (p := XE.var B 0) (ev_var rfl) k3) (ev_isi (p := XE.var B 1) (ev_var rfl) k3) ne_bl)))
    have i3 := ev_iteF (B := B) (a := a) (b := .pass B) (ev_ofE (ev_eq (len (i := 0) rfl) (len (i := 1) rfl) ne_int))
    have i4 := i1.trans ((ev_seq i2).trans ((ev_seq i3).trans (ev_ret e2)))
    show (Out.bind _ _) = _
    exact (congrArg (fun o => Out.bind o _) i4).trans rfl
  exact body
theorem alike_ok {B : Bs} : ∀ (n : Nat) (d : D) (s : HS), Al n d → g__law_alike B n [d, d] s = .ret (.bl true) s
  | 0, d, s, h => h.elim
  | n + 1, d, s, h => by
    have fin : (p__law_alike B (g__law_alike B n)).ev [.fr d, .fr d, .no] s = .ret (.bl true) s → g__law_alike B (n + 1) [d, d] s = .ret (.bl true) s := fun e => by
      show ((p__law_alike B (g__law_alike B n)).ev [.fr d, .fr d, .no] s).res = _
      rw [e]
      exact rfl
    apply fin
    rcases h with ⟨x, rfl, hx⟩ | ⟨i, rfl⟩ | ⟨pl, ds, rfl, hl, hz⟩ | ⟨ds, rfl, hl, hz⟩
    · unfold p__law_alike
      rw [ev_seq (a := XS.ite _ (XS.nv B) (XS.pass B)) (ev_iteF (ev_ofE (ev_isi (ev_var rfl) rfl))), ev_seq (ev_iteF (ev_ofE (ev_isiT (p := XE.var B 1) (ev_var rfl) rfl)))]
      have i1 := ev_iteT (B := B) (a := (.ret ((.and (.eq false [] (.var B 0) (.var B 1)) (.eq false [] (.isi isi_str (.var B 0)) (.isi isi_str (.var B 1))))))) (b := .pass B) (ev_orF (t := .ofE (.op2 (o_isN B) (.var B 1) (.non B))) (Γ := [.fr (.str x), .fr (.str x), .no]) (s := s) (ev_ofE (ev_op2 (ev_var rfl) rfl rfl)) (ev_ofE (ev_isi (f := isi_str) (p := XE.var B 1) (ev_var rfl) rfl)))
      have i2 := i1.trans (ev_ret (ev_andE (ev_eq (ev_var rfl) (ev_var rfl) (eq_str hx)) (ev_eq (ev_isi (p := XE.var B 0) (ev_var rfl) rfl) (ev_isi (p := XE.var B 1) (ev_var rfl) rfl) eq_bl)))
      show (Out.bind _ _) = _
      exact (congrArg (fun o => Out.bind o _) i2).trans rfl
    · unfold p__law_alike
      rw [ev_seq (a := XS.ite _ (XS.nv B) (XS.pass B)) (ev_iteF (ev_ofE (ev_isi (ev_var rfl) rfl))), ev_seq (ev_iteF (ev_ofE (ev_isiT (p := XE.var B 1) (ev_var rfl) rfl)))]
      rw [ev_seq (ev_iteF (ev_orF (t := .ofE (.op2 (o_isN B) (.var B 1) (.non B))) (ev_ofE (ev_op2 (ev_var rfl) rfl rfl)) (ev_ofE (ev_isi (f := isi_str) (p := XE.var B 1) (ev_var rfl) rfl))))]
      exact ev_ret (ev_andE (ev_isi (ev_var rfl) rfl) (ev_andE (ev_eq (ev_isi (p := XE.var B 0) (ev_var rfl) rfl) (ev_isi (p := XE.var B 1) (ev_var rfl) rfl) eq_bl) (ev_eq (ev_var rfl) (ev_var rfl) eq_int)))
    · exact alike_seq (.inl ⟨pl, rfl⟩) hl fun z h s => alike_ok n z s (hz z h)
    · exact alike_seq (.inr rfl) hl fun z h s => alike_ok n z s (hz z h)
end K1

set_option Elab.async false
set_option linter.all false
set_option maxRecDepth 100000
namespace K1
open PySem PySem.Spec PyProof.Rows L2 Evl Dv
def subs : List Str → List (List Str)
  | [] => [[]]
  | x :: xs => (subs xs).map (x :: ·) ++ subs xs
theorem sub_mem : ∀ {l w : List Str}, w.Sublist l → w ∈ subs l
  | _, _, .slnil => by simp [subs]
  | _, _, .cons a h => by
    show _ ∈ _ ++ _
    exact List.mem_append_right _ (sub_mem h)
  | _, _, .cons₂ a h => by
    show _ ∈ _ ++ _
    exact List.mem_append_left _ (List.mem_map_of_mem (sub_mem h))
def Wl : List (List Str) := (subs W5).filter fun w => decide (2 ≤ w.length)
theorem wok_mem {w : List Str} (h : Wok w) : w ∈ Wl := List.mem_filter.mpr ⟨sub_mem h.1, decide_eq_true h.2⟩
theorem isf_all {B : Bs} {s : HS} : ∀ n ∈ L6, ∀ w ∈ Wl, g_is_feature B [.str n, wD w] s = .ret (.bl true) s := by
  unfold L6
  repeat' (refine List.forall_mem_cons.2 ⟨?_, ?_⟩)
  all_goals first
    | exact fun _ h => (List.not_mem_nil h).elim
    | exact rfl
end K1

set_option Elab.async false
set_option linter.all false
set_option maxRecDepth 100000
namespace K1
open PySem PySem.Spec PyProof.Rows L2 Evl Dv
/-- enumerate from i -/
def enF : Nat → List D → List D
  | _, [] => []
  | i, d :: r => .tup false [.int (i : Nat), d] :: enF (i + 1) r
theorem enu_from : ∀ (ds : List D) (i : Nat), ds.mapIdx (fun j d => D.tup false [.int ((i + j : Nat) : Int), d]) = enF i ds
  | [], _ => rfl
  | d :: r, i => by
    rw [List.mapIdx_cons]
    show _ :: _ = _ :: enF (i + 1) r
    rw [← enu_from r (i + 1)]
    have e : (fun (j : Nat) (d : D) => D.tup false [.int ((i + (j + 1) : Nat) : Int), d]) = fun (j : Nat) (d : D) => D.tup false [.int ((i + 1 + j : Nat) : Int), d] := by
      funext j d
      have : i + (j + 1) = i + 1 + j := by omega
      rw [this]
    rw [e]
    exact rfl
theorem enu_eq (ds : List D) : enuD ds = enF 0 ds := by
  rw [← enu_from ds 0]
  unfold enuD
  have e : (fun (j : Nat) (d : D) => D.tup false [.int (j : Nat), d]) = fun (j : Nat) (d : D) => D.tup false [.int ((0 + j : Nat) : Int), d] := by
    funext j d
    have : 0 + j = j := by omega
    rw [this]
  rw [e]
/-- an entry: its name, its words -/
structure En where
  pl : Bool
  n : Str
  w : D
def En.d (e : En) : D := .tup e.pl [.str e.n, e.w]
def cg (B : Bs) : XG B := .tup [(.name B 3), (.tup [(.name B 4), (.name B 5)])]
def ct (B : Bs) : XT B := .or (.ofE (.eq false [] (.var B 3) (.int B 6))) (.or (.ofE (.in false [] (.var B 4) (.var B 2))) (.not (.ofE (.call 2 (g_is_feature B) [(.var B 4), (.var B 5)] rfl))))
def cb (B : Bs) : XS B := .seq (.ite (.view (ct B)) (.rf "InvalidCatalog" ["index"] (by decide) [(.var B 3)] rfl (Nat.le_of_ble_eq_true rfl)) (.pass B)) (.app 2 (.var B 4))
theorem eqv_ints (i j : Int) : PyData.eqv (.int i) (.int j) = decide (i = j) := by
  by_cases h : i = j
  · simp [PyData.eqv, h]
  · simp [PyData.eqv, h]
theorem eq_ints {i j : Int} {s : HS} : eqE false [] (.int i) (.int j) s = .ret (.bl (decide (i = j))) s := by
  show Res.opt (if SeqAt.shaped (.int i) = true ∧ SeqAt.shaped (.int j) = true then some (.bl (PyData.eqv (.int i) (.int j))) else none) s = _
  rw [if_pos ⟨rfl, rfl⟩, eqv_ints]
  exact rfl
theorem fls_str (ns : List Str) : fls (sD ns) = some (ns.map V.str) := by
  induction ns with
  | nil => rfl
  | cons a r ih =>
    show (match fls (sD r) with
      | some vs => some (V.str a :: vs)
      | none => none) = _
    rw [ih]
    exact rfl
theorem inV_str (n : Str) (ns : List Str) : inV (.str n) (ns.map V.str) = decide (n ∈ ns) := by
  unfold inV
  induction ns with
  | nil => simp
  | cons a r ih =>
    rw [List.map_cons, List.any_cons, ih]
    have e : eqV (.str a) (.str n) = decide (n = a) := by
      show (a == n) = _
      by_cases h : n = a
      · subst h; simp
      · rw [decide_eq_false h]; simp; exact fun z => h z.symm
    rw [e]
    by_cases h1 : n = a
    · simp [h1]
    · simp [h1]
theorem in_strs {n : Str} {ns : List Str} {s : HS} : inE false [] (.str n) (.lst (sD ns)) s = .ret (.bl (decide (n ∈ ns))) s := by
  show Res.opt (match fls (sD ns) with
    | some vs => some (.bl (inV (.str n) vs))
    | none => none) s = _
  rw [fls_str]
  dsimp only
  rw [inV_str]
  exact rfl
theorem ev_in {B : Bs} {Γ : Gm} {p q : XE B} {d e : D} {s s1 s2 : HS} {R : Res} {neg : Bool} {hs : Hd} (h1 : p.ev Γ s = .ret d s1) (h2 : q.ev Γ s1 = .ret e s2) (h3 : inE neg hs d e s2 = R) : (XE.in neg hs p q).ev Γ s = R := by
  show (p.ev Γ s).bind _ = _
  rw [h1]
  show (q.ev Γ s1).bind _ = _
  rw [h2]
  exact h3
def cΓ (f : D) (ns : List Str) (i : Int) (e : En) : Gm := [.io "Catalog" [], .fr f, .lo (sD ns), .fr (.int i), .fr (.str e.n), .fr e.w]
theorem ct_ev {B : Bs} {f : D} {ns : List Str} {i : Int} {e : En} {s : HS} {b : Bool} (h : i ≠ 6 → e.n ∉ ns → g_is_feature B [.str e.n, e.w] s = .ret (.bl b) s) :
    (XT.view (ct B)).ev (cΓ f ns i e) s = .ret (.bl (decide (i = 6) || (decide (e.n ∈ ns) || (if i ≠ 6 ∧ e.n ∉ ns then !b else false)))) s := by
  refine ev_viewT ?_
  have e1 : (XE.eq false [] (XE.var B 3) (XE.int B 6)).ev (frzA (cΓ f ns i e)) s = .ret (.bl (decide (i = 6))) s := ev_eq (ev_var rfl) rfl eq_ints
  have e2 : (XE.in false [] (XE.var B 4) (XE.var B 2)).ev (frzA (cΓ f ns i e)) s = .ret (.bl (decide (e.n ∈ ns))) s := ev_in (ev_var rfl) (ev_var rfl) in_strs
  by_cases h1 : i = 6
  · rw [decide_eq_true h1] at e1 ⊢
    exact ev_orT (ev_ofE e1)
  · rw [decide_eq_false h1] at e1 ⊢
    by_cases h2 : e.n ∈ ns
    · rw [decide_eq_true h2] at e2 ⊢
      exact ev_orF (ev_ofE e1) (ev_orT (ev_ofE e2))
    · rw [decide_eq_false h2] at e2 ⊢
      rw [if_pos ⟨h1, h2⟩]
      exact ev_orF (ev_ofE e1) (ev_orF (ev_ofE e2) (ev_notT (ev_ofE (ev_call2 (ev_var rfl) (ev_var rfl) (h h1 h2)))))
theorem good_step {B : Bs} {f : D} {ns : List Str} {i : Int} {e : En} {s : HS} (h1 : i ≠ 6) (h2 : e.n ∉ ns) (h3 : g_is_feature B [.str e.n, e.w] s = .ret (.bl true) s) (hl : ns.length ≤ 1000) :
    (cb B).ev (cΓ f ns i e) s = .nxt (cΓ f (ns ++ [e.n]) i e) s := by
  have t := ct_ev (B := B) (f := f) (ns := ns) (i := i) (b := true) fun _ _ => h3
  rw [decide_eq_false h1, decide_eq_false h2, if_pos ⟨h1, h2⟩] at t
  unfold cb
  rw [ev_seq (ev_iteF t)]
  refine (ev_app (ds := sD ns) (d := .str e.n) rfl (by simp [sD]; omega) (ev_var rfl)).trans ?_
  show Out.nxt [_, _, .lo (sD ns ++ [.str e.n]), _, _, _] s = Out.nxt [_, _, .lo (sD (ns ++ [e.n])), _, _, _] s
  unfold sD
  rw [List.map_append]
  exact rfl
theorem bad_step {B : Bs} {f : D} {ns : List Str} {i : Int} {e : En} {s : HS} {b : Bool} (h3 : i ≠ 6 → e.n ∉ ns → g_is_feature B [.str e.n, e.w] s = .ret (.bl b) s) (h : i = 6 ∨ e.n ∈ ns ∨ b = false) :
    (cb B).ev (cΓ f ns i e) s = .exc "InvalidCatalog" [("index", .int i)] (cΓ f ns i e) s := by
  have t := ct_ev (B := B) (f := f) h3
  have tt : (decide (i = 6) || (decide (e.n ∈ ns) || (if i ≠ 6 ∧ e.n ∉ ns then !b else false))) = true := by
    by_cases h1 : i = 6
    · simp [h1]
    · by_cases h2 : e.n ∈ ns
      · simp [h2]
      · rcases h with z | z | z
        · exact absurd z h1
        · exact absurd z h2
        · simp [h1, h2, z]
  rw [tt] at t
  unfold cb
  show ((XS.ite _ _ _).ev (cΓ f ns i e) s).bind _ = _
  rw [ev_iteT t]
  exact rfl
theorem loop_good {B : Bs} {f : D} {s : HS} : ∀ (es : List En) (i : Nat) (ns : List Str) (a b c : Sl), i + es.length ≤ 6 → ns.length = i → (ns ++ es.map En.n).Nodup → (∀ e ∈ es, g_is_feature B [.str e.n, e.w] s = .ret (.bl true) s) →
    ∃ a' b' c', forL (cg B) (cb B).ev (enF i (es.map En.d)) [.io "Catalog" [], .fr f, .lo (sD ns), a, b, c] s = .nxt [.io "Catalog" [], .fr f, .lo (sD (ns ++ es.map En.n)), a', b', c'] s
  | [], i, ns, a, b, c, _, _, _, _ => ⟨a, b, c, by
    show Out.nxt [_, _, .lo (sD ns), _, _, _] s = Out.nxt [_, _, .lo (sD (ns ++ [])), _, _, _] s
    rw [List.append_nil]⟩
  | e :: r, i, ns, a, b, c, h6, hi, hn, hf => by
    have hlen : (e :: r).length = r.length + 1 := rfl
    have hne : e.n ∉ ns := fun z => by
      have := (List.nodup_append.mp hn).2.2 e.n z e.n (by simp)
      exact this rfl
    obtain ⟨a', b', c', e2⟩ := loop_good (B := B) (f := f) (s := s) r (i + 1) (ns ++ [e.n]) (.fr (.int (i : Nat))) (.fr (.str e.n)) (.fr e.w) (by omega) (by simp [hi]) (by rw [List.append_assoc]; exact hn) fun x hx => hf x (List.mem_cons_of_mem _ hx)
    refine ⟨a', b', c', ?_⟩
    rw [List.append_assoc] at e2
    refine (for_cons (l := [(3, .int (i : Nat)), (4, .str e.n), (5, e.w)]) rfl (good_step (f := f) (i := (i : Nat)) (by omega) hne (hf e (List.mem_cons_self ..)) (by omega))).trans e2
theorem loop_bad {B : Bs} {f : D} {s : HS} {e : En} {tl : List D} : ∀ (es : List En) (i : Nat) (ns : List Str) (a b c : Sl), i + es.length ≤ 6 → ns.length = i → (ns ++ es.map En.n).Nodup → (∀ e ∈ es, g_is_feature B [.str e.n, e.w] s = .ret (.bl true) s) →
    (∃ k, (((i + es.length : Nat) : Int) ≠ 6 → e.n ∉ ns ++ es.map En.n → g_is_feature B [.str e.n, e.w] s = .ret (.bl k) s) ∧ (((i + es.length : Nat) : Int) = 6 ∨ e.n ∈ ns ++ es.map En.n ∨ k = false)) →
    ∃ Γ', forL (cg B) (cb B).ev (enF i (es.map En.d ++ e.d :: tl)) [.io "Catalog" [], .fr f, .lo (sD ns), a, b, c] s = .exc "InvalidCatalog" [("index", .int ((i + es.length : Nat) : Int))] Γ' s
  | [], i, ns, a, b, c, _, hi, _, _, hb => by
    obtain ⟨k, h1, h2⟩ := hb
    rw [List.map_nil, List.append_nil] at h1 h2
    have st := bad_step (B := B) (f := f) (ns := ns) (i := ((i : Nat) : Int)) (e := e) (s := s) (b := k) h1 h2
    refine ⟨cΓ f ns ((i : Nat) : Int) e, ?_⟩
    show ((cb B).ev (cΓ f ns ((i : Nat) : Int) e) s).turn (forL (cg B) (cb B).ev (enF (i + 1) tl)) = _
    rw [st]
    exact rfl
  | g :: r, i, ns, a, b, c, h6, hi, hn, hf, hb => by
    have hlen : (g :: r).length = r.length + 1 := rfl
    have hne : g.n ∉ ns := fun z => by
      have := (List.nodup_append.mp hn).2.2 g.n z g.n (by simp)
      exact this rfl
    have hadd : i + 1 + r.length = i + (g :: r).length := by omega
    obtain ⟨Γ', e2⟩ := loop_bad (B := B) (f := f) (s := s) (e := e) (tl := tl) r (i + 1) (ns ++ [g.n]) (.fr (.int (i : Nat))) (.fr (.str g.n)) (.fr g.w) (by omega) (by simp [hi]) (by rw [List.append_assoc]; exact hn) (fun x hx => hf x (List.mem_cons_of_mem _ hx)) (by
      rw [hadd, List.append_assoc]
      exact hb)
    rw [hadd] at e2
    refine ⟨Γ', ?_⟩
    exact (for_cons (l := [(3, .int (i : Nat)), (4, .str g.n), (5, g.w)]) rfl (good_step (f := f) (i := (i : Nat)) (by omega) hne (hf g (List.mem_cons_self ..)) (by omega))).trans e2
end K1

set_option Elab.async false
set_option linter.all false
set_option maxRecDepth 100000
namespace K1
open PySem PySem.Spec PyProof.Rows L2 Evl Dv
def kv (e : En) : Key × D := (.inr e.n, e.w)
theorem prs_ok : ∀ es : List En, prsD (es.map En.d) = some (es.map kv)
  | [] => rfl
  | e :: r => by
    show (match prsD (r.map En.d) with
      | some l => some (((Sum.inr e.n : Key), e.w) :: l)
      | none => none) = _
    rw [prs_ok r]
    exact rfl
theorem merge_ok : ∀ (es acc : List En), (acc.map En.n ++ es.map En.n).Nodup → mergeD (acc.map kv) (es.map kv) = (acc ++ es).map kv
  | [], acc, _ => by rw [List.append_nil]; exact rfl
  | e :: r, acc, h => by
    have hne : e.n ∉ acc.map En.n := fun z => by
      have := (List.nodup_append.mp h).2.2 e.n z e.n (by simp)
      exact this rfl
    have e1 : putKD (acc.map kv) (.inr e.n) e.w = (acc ++ [e]).map kv := by
      unfold putKD
      rw [if_neg]
      · rw [List.map_append]; exact rfl
      · intro z
        rw [List.any_eq_true] at z
        obtain ⟨x, hx, hk⟩ := z
        obtain ⟨y, hy, rfl⟩ := List.mem_map.mp hx
        have hk2 : (Sum.inr y.n : Key) = Sum.inr e.n := of_decide_eq_true hk
        exact hne (List.mem_map.mpr ⟨y, hy, Sum.inr.inj hk2⟩)
    show mergeD (putKD (acc.map kv) (.inr e.n) e.w) (r.map kv) = _
    rw [e1, merge_ok r (acc ++ [e]) (by rw [List.map_append, List.append_assoc]; exact h), List.append_assoc]
    exact rfl
def cat (es : List En) : D := .ins "Catalog" [("_features", .tup true (es.map En.d)), ("_values", .dic (es.map kv))]
structure Eok (B : Bs) (es : List En) : Prop where
  len : es.length ≤ 6
  pos : 1 ≤ es.length
  nd : (es.map En.n).Nodup
  isf : ∀ e ∈ es, ∀ s, g_is_feature B [.str e.n, e.w] s = .ret (.bl true) s
theorem enu_ev {B : Bs} {Γ : Gm} {pl : Bool} {ds : List D} {s : HS} (h : Γ[1]? = some (.fr (.tup pl ds))) : (XI.enu (XE.var B 1)).ev Γ s = .ret (.lst (enF 0 ds)) s := by
  show ((XE.var B 1).ev Γ s).bind _ = _
  rw [ev_var h]
  show Res.ret (.lst (enuD ds)) s = _
  rw [enu_eq]
theorem head_ev {B : Bs} {pl : Bool} {ds : List D} {s : HS} (h : 1 ≤ ds.length) : (XS.ite (.ofE (.eq false [] (.len [] (.var B 1)) (.int B 0))) (.rf "InvalidCatalog" ["index"] (by decide) [(.int B 0)] rfl (Nat.le_of_ble_eq_true rfl)) (.pass B)).ev [.io "Catalog" [], .fr (.tup pl ds), .no, .no, .no, .no] s = .nxt [.io "Catalog" [], .fr (.tup pl ds), .no, .no, .no, .no] s := by
  refine ev_iteF (ev_ofE (ev_eq (ev_lenT (ev_var rfl)) rfl ?_))
  rw [eq_ints, decide_eq_false (by omega)]
theorem setF_ev {B : Bs} {Γ : Gm} {p : XE B} {c f : Str} {i : Nat} {fs : List (Str × D)} {d : D} {s s1 : HS} (h : Γ[i]? = some (.io c fs)) (hl : fs.length < 1000) (hp : p.ev Γ s = .ret d s1) : (XS.setF c f i p).ev Γ s = .nxt (Γ.set i (.io c (putD f d fs))) s1 := by
  show (match (Γ[i]? : Option Sl) with
    | some (.io c' fs) => if c' = c ∧ fs.length < 1000 then (p.ev Γ s).out Γ fun d s1 => Out.nxt (Γ.set i (.io c (putD f d fs))) s1 else .stuck
    | _ => .stuck) = _
  rw [h]
  show (if c = c ∧ fs.length < 1000 then (p.ev Γ s).out Γ fun d s1 => Out.nxt (Γ.set i (.io c (putD f d fs))) s1 else .stuck) = _
  rw [if_pos ⟨rfl, hl⟩, hp]
  exact rfl
theorem cat_good {B : Bs} {es : List En} {s : HS} (h : Eok B es) : g_Catalog__init__ B [.tup true (es.map En.d)] s = .ret (cat es) s := by
  obtain ⟨a, b, c, e1⟩ := loop_good (B := B) (f := .tup true (es.map En.d)) (s := s) es 0 [] .no .no .no (by have := h.len; omega) rfl (by simpa using h.nd) fun e he => h.isf e he s
  have hd : dicF (.tup true (es.map En.d)) = some (.dic (es.map kv)) := by
    show (match prsD (es.map En.d) with
      | some kvs => some (D.dic (mergeD [] kvs))
      | none => none) = _
    rw [prs_ok]
    dsimp only
    have m := merge_ok es [] (by simpa using h.nd)
    rw [List.map_nil] at m
    rw [m]
    exact rfl
  have ev : (p_Catalog__init__ B).ev [.io "Catalog" [], .fr (.tup true (es.map En.d)), .no, .no, .no, .no] s = .nxt [.io "Catalog" [("_features", .tup true (es.map En.d)), ("_values", .dic (es.map kv))], .fr (.tup true (es.map En.d)), .lo (sD (es.map En.n)), a, b, c] s := by
    unfold p_Catalog__init__
    rw [ev_seq (head_ev (by simpa using h.pos))]
    have e0 : (XS.setN 2 (XN.lst (B := B) [])).ev [.io "Catalog" [], .fr (.tup true (es.map En.d)), .no, .no, .no, .no] s = .nxt [.io "Catalog" [], .fr (.tup true (es.map En.d)), .lo [], .no, .no, .no] s := rfl
    rw [ev_seq e0]
    have e2 : (XS.for (.enu (.var B 1)) (cg B) (cb B)).ev [.io "Catalog" [], .fr (.tup true (es.map En.d)), .lo [], .no, .no, .no] s = .nxt [.io "Catalog" [], .fr (.tup true (es.map En.d)), .lo (sD (es.map En.n)), a, b, c] s := by
      rw [ev_for (enu_ev rfl)]
      exact e1
    refine (ev_seq (a := XS.for (.enu (.var B 1)) (cg B) (cb B)) e2).trans ?_
    rw [ev_seq (setF_ev (fs := []) rfl (by decide) (ev_var rfl))]
    refine (setF_ev (fs := [("_features", .tup true (es.map En.d))]) rfl (by show 1 < 1000; decide) (ev_blt1 (ev_var rfl) hd)).trans ?_
    exact rfl
  show (match ((p_Catalog__init__ B).ev [.io "Catalog" [], .fr (.tup true (es.map En.d)), .no, .no, .no, .no] s).ini with
    | .ret (.ins c' fs) s' => if c' = "Catalog" then Res.ret (.ins c' fs) s' else .stuck
    | .exc c' fs s' => .exc c' fs s'
    | _ => .stuck) = _
  rw [ev]
  exact if_pos rfl
theorem cat_bad {B : Bs} {es : List En} {e : En} {tl : List D} {pl : Bool} {s : HS} (hl : es.length ≤ 6) (hn : (es.map En.n).Nodup) (hf : ∀ e ∈ es, ∀ s, g_is_feature B [.str e.n, e.w] s = .ret (.bl true) s)
    (hb : ∃ k, ((es.length : Int) ≠ 6 → e.n ∉ es.map En.n → g_is_feature B [.str e.n, e.w] s = .ret (.bl k) s) ∧ ((es.length : Int) = 6 ∨ e.n ∈ es.map En.n ∨ k = false)) :
    g_Catalog__init__ B [.tup pl (es.map En.d ++ e.d :: tl)] s = .exc "InvalidCatalog" [("index", .int (es.length : Nat))] s := by
  obtain ⟨Γ', e1⟩ := loop_bad (B := B) (f := .tup pl (es.map En.d ++ e.d :: tl)) (s := s) (e := e) (tl := tl) es 0 [] .no .no .no (by omega) rfl (by simpa using hn) (fun x hx => hf x hx s) (by
    rw [Nat.zero_add, List.nil_append]
    exact hb)
  rw [Nat.zero_add] at e1
  have ev : (p_Catalog__init__ B).ev [.io "Catalog" [], .fr (.tup pl (es.map En.d ++ e.d :: tl)), .no, .no, .no, .no] s = .exc "InvalidCatalog" [("index", .int (es.length : Nat))] Γ' s := by
    unfold p_Catalog__init__
    rw [ev_seq (head_ev (by simp; omega))]
    have e0 : (XS.setN 2 (XN.lst (B := B) [])).ev [.io "Catalog" [], .fr (.tup pl (es.map En.d ++ e.d :: tl)), .no, .no, .no, .no] s = .nxt [.io "Catalog" [], .fr (.tup pl (es.map En.d ++ e.d :: tl)), .lo [], .no, .no, .no] s := rfl
    rw [ev_seq e0]
    have e2 : (XS.for (.enu (.var B 1)) (cg B) (cb B)).ev [.io "Catalog" [], .fr (.tup pl (es.map En.d ++ e.d :: tl)), .lo [], .no, .no, .no] s = .exc "InvalidCatalog" [("index", .int (es.length : Nat))] Γ' s := by
      rw [ev_for (enu_ev rfl)]
      exact e1
    show Out.bind _ _ = _
    exact (congrArg (fun o => Out.bind o _) e2).trans rfl
  show (match ((p_Catalog__init__ B).ev [.io "Catalog" [], .fr (.tup pl (es.map En.d ++ e.d :: tl)), .no, .no, .no, .no] s).ini with
    | .ret (.ins c' fs) s' => if c' = "Catalog" then Res.ret (.ins c' fs) s' else .stuck
    | .exc c' fs s' => .exc c' fs s'
    | _ => .stuck) = _
  rw [ev]
  exact rfl
theorem cat_none {B : Bs} {pl : Bool} {s : HS} : g_Catalog__init__ B [.tup pl []] s = .exc "InvalidCatalog" [("index", .int 0)] s := rfl
theorem index_ok {B : Bs} {x} {f : D} {k : Int} {s : HS} (h : g_Catalog__init__ B [f] s = .exc "InvalidCatalog" [("index", .int k)] s) : g__law_index B x [f] s = .ret (.int k) s := by
  have ev : (p__law_index B x).ev [.fr f, .no] s = .ret (.int k) s := by
    have e1 : (XS.ret (XE.make (B := B) "Catalog" 1 (g_Catalog__init__ B) [.var B 0] rfl XS.ini_ins)).ev [.fr f, .no] s = .exc "InvalidCatalog" [("index", .int k)] [.fr f, .no] s := by
      have e0 : (XE.make (B := B) "Catalog" 1 (g_Catalog__init__ B) [.var B 0] rfl XS.ini_ins).ev [.fr f, .no] s = .exc "InvalidCatalog" [("index", .int k)] s := by
        show g_Catalog__init__ B [f] s = _
        exact h
      show (((XE.make (B := B) "Catalog" 1 (g_Catalog__init__ B) [.var B 0] rfl XS.ini_ins).ev [.fr f, .no] s)).out _ _ = _
      rw [e0]
      exact rfl
    show (match (XS.ret (XE.make (B := B) "Catalog" 1 (g_Catalog__init__ B) [.var B 0] rfl XS.ini_ins)).ev [.fr f, .no] s with
      | .exc c' fs Γ' s' => if c' = ("InvalidCatalog" : Str) ∧ 1 < Γ'.length then (match fs.lookup ("index" : Str) with
        | some d => Out.ret d s'
        | none => .stuck) else .stuck
      | o => o) = _
    rw [e1]
    exact if_pos ⟨rfl, by show 1 < 2; decide⟩
  show ((p__law_index B x).ev [.fr f, .no] s).res = _
  rw [ev]
  exact rfl
end K1

set_option Elab.async false
set_option linter.all false
set_option maxRecDepth 100000
namespace K1
open PySem PySem.Spec PyProof.Rows L2 Evl Dv
def st0 (B : Bs) : XS B := (.set 3 (.call 2 (g__law_features B) [(.var B 1), (.int B 6)] rfl))
def st1 (B : Bs) : XS B := (.par 4 5 (.make "Catalog" 1 (g_Catalog__init__ B) [(.var B 3)] rfl (XS.ini_ins)) (.call 2 (g__law_next B) [(.var B 1), (.op2 (o_add B) (.len [("Catalog", g_Catalog__len__ B)] (.var B 3)) (.int B 1))] rfl))
def st2 (B : Bs) : XS B := (.setN 6 (.lst [(.tup [(.str B ""), (.tup [(.str B "a"), (.str B "b")])]), (.tup [(.str B "Hue"), (.tup [(.str B "a"), (.str B "b")])]), (.tup [(.str B "ninelette"), (.tup [(.str B "a"), (.str B "b")])]), (.tup [(.str B "x"), (.tup [(.str B "a")])])]))
def st3 (B : Bs) : XS B := (.frz 6 (.setN 6 (.cat (.var B 6) (.ofN (.lst [(.tup [(.str B "x"), (.tup [(.str B "b"), (.str B "a")])]), (.tup [(.str B "x"), (.tup [(.str B "a"), (.str B "a")])])])))))
def st4 (B : Bs) : XS B := (.frz 6 (.setN 6 (.cat (.var B 6) (.ofN (.lst [(.tup [(.str B "x"), (.tup [(.str B "a"), (.str B "B")])]), (.tup [(.str B "x"), (.tup [(.str B ""), (.str B "a")])]), (.tup [(.str B "x"), (.blt (o_tupA B) [(.ofN (.lc (.of (.str B "abcdefghi")) (.name B 13) (.yes B) (.op2 (o_add B) (.str B "a") (.var B 13)) [13]))])])])))))
def st5 (B : Bs) : XS B := (.app 6 (.ifx (.ofE (.op2 (o_gtI B) (.var B 5) (.int B 0))) (.tup [(.ix [("Catalog", g_Catalog__getitem__ B)] (.ix [("Catalog", g_Catalog__getitem__ B)] (.var B 3) (.int B 0)) (.int B 0)), (.tup [(.str B "a"), (.str B "b")])]) (.tup [(.str B "x"), (.tup [])])))
def st6 (B : Bs) : XS B := (.frz 6 (.set 7 (.op2 (o_add B) (.op2 (o_add B) (.sli (.var B 3) none (some (.var B 5))) (.tup [(.ix [("Catalog", g_Catalog__getitem__ B)] (.var B 6) (.call 2 (g__law_next B) [(.var B 1), (.int B 10)] rfl))])) (.sli (.var B 3) (some (.var B 5)) none))))
def st7 (B : Bs) (x_InvalidCatalog : PySem.W.exmOne B.K (.ref (B.ca "InvalidCatalog")) (.ref (B.ca "InvalidCatalog")) = some true) : XS B := (.ite (.not (.ofE (.call 2 (g__law_alike B 6) [(.call 1 (g__law_index B x_InvalidCatalog) [(.var B 7)] rfl), (.var B 5)] rfl))) (.ret (.bl B false)) (.pass B))
def st8 (B : Bs) : XS B := (.set 8 (.blt (o_tupA B) [(.ofN (.lc (.of (.str B "abcdef")) (.name B 13) (.yes B) (.tup [(.op2 (o_add B) (.str B "f") (.var B 13)), (.tup [(.str B "a"), (.str B "b")])]) [13]))]))
def st9 (B : Bs) (x_InvalidCatalog : PySem.W.exmOne B.K (.ref (B.ca "InvalidCatalog")) (.ref (B.ca "InvalidCatalog")) = some true) : XS B := (.set 9 (.ofN (.lst [(.call 1 (g__law_index B x_InvalidCatalog) [(.tup [])] rfl), (.call 1 (g__law_index B x_InvalidCatalog) [(.op2 (o_add B) (.var B 8) (.tup [(.tup [(.str B "z"), (.tup [(.str B "a"), (.str B "b")])])]))] rfl), (.call 1 (g__law_index B x_InvalidCatalog) [(.op2 (o_add B) (.var B 8) (.tup [(.tup [(.str B "z"), (.tup [])])]))] rfl)])))
def st10 (B : Bs) : XS B := (.ite ((.or (.not (.ofE (.call 2 (g__law_alike B 6) [(.var B 9), (.ofN (.lst [(.int B 0), (.int B 6), (.int B 6)]))] rfl))) (.ofE (.eq true [("Catalog", g_Catalog__eq__ B)] (.len [("Catalog", g_Catalog__len__ B)] (.make "Catalog" 1 (g_Catalog__init__ B) [(.var B 8)] rfl (XS.ini_ins))) (.int B 6))))) (.ret (.bl B false)) (.pass B))
def st11 (B : Bs) : XS B := (.set 10 (.ofN (.lst [(.var B 3), (.blt (o_tupA B) [(.ofN (.lc (.of (.var B 3)) (.name B 14) (.yes B) (.ix [("Catalog", g_Catalog__getitem__ B)] (.var B 14) (.int B 0)) [14]))]), (.len [("Catalog", g_Catalog__len__ B)] (.var B 3))])))
def st12 (B : Bs) : XS B := (.ite (.not (.ofE (.call 2 (g__law_alike B 6) [(.ofN (.lst [(.at [("Catalog", .prop (g_Catalog_features B))] "features" (.var B 4)), (.at [("Catalog", .prop (g_Catalog_names B))] "names" (.var B 4)), (.len [("Catalog", g_Catalog__len__ B)] (.var B 4))])), (.var B 10)] rfl))) (.ret (.bl B false)) (.pass B))
def st13 (B : Bs) : XS B := (.for (.of (.var B 3)) (.tup [(.name B 11), (.name B 12)]) (.ite ((.or (.ofE (.in true [("Catalog", g_Catalog__contains__ B)] (.var B 11) (.var B 4))) (.not (.ofE (.call 2 (g__law_alike B 6) [(.ix [("Catalog", g_Catalog__getitem__ B)] (.var B 4) (.var B 11)), (.var B 12)] rfl))))) (.ret (.bl B false)) (.pass B)))
def st14 (B : Bs) : XS B := (.ite ((.or (.ofE (.in false [("Catalog", g_Catalog__contains__ B)] (.str B "nofeat") (.var B 4))) (.or (.ofE (.eq true [("Catalog", g_Catalog__eq__ B)] (.var B 4) (.make "Catalog" 1 (g_Catalog__init__ B) [(.var B 3)] rfl (XS.ini_ins)))) (.ofE (.eq false [("Catalog", g_Catalog__eq__ B)] (.var B 4) (.make "Catalog" 1 (g_Catalog__init__ B) [(.tup [(.tup [(.str B "zz"), (.tup [(.str B "a"), (.str B "b")])])])] rfl (XS.ini_ins))))))) (.ret (.bl B false)) (.pass B))
def st15 (B : Bs) (x_UnknownFeature : PySem.W.exmOne B.K (.ref (B.ca "UnknownFeature")) (.ref (B.ca "UnknownFeature")) = some true) : XS B := (.try "UnknownFeature" (.seq (.drop (.ix [("Catalog", g_Catalog__getitem__ B)] (.var B 4) (.str B "nofeat"))) (.ret (.bl B false))) (.set 5 (.int B 0)) x_UnknownFeature)
def turn (B : Bs) (x_InvalidCatalog : PySem.W.exmOne B.K (.ref (B.ca "InvalidCatalog")) (.ref (B.ca "InvalidCatalog")) = some true) (x_UnknownFeature : PySem.W.exmOne B.K (.ref (B.ca "UnknownFeature")) (.ref (B.ca "UnknownFeature")) = some true) : XS B := (.seq (st0 B) (.seq (st1 B) (.seq (st2 B) (.seq (st3 B) (.seq (st4 B) (.seq (st5 B) (.seq (st6 B) (.seq (st7 B x_InvalidCatalog) (.seq (st8 B) (.seq (st9 B x_InvalidCatalog) (.seq (st10 B) (.seq (st11 B) (.seq (st12 B) (.seq (st13 B) (.seq (st14 B) (st15 B x_UnknownFeature))))))))))))))))
theorem law_eq (B : Bs) (x_InvalidCatalog : PySem.W.exmOne B.K (.ref (B.ca "InvalidCatalog")) (.ref (B.ca "InvalidCatalog")) = some true) (x_UnknownFeature : PySem.W.exmOne B.K (.ref (B.ca "UnknownFeature")) (.ref (B.ca "UnknownFeature")) = some true) : p_law B x_InvalidCatalog x_UnknownFeature = .seq (.for (.range1 (.int B 5)) (.name B 2) (turn B x_InvalidCatalog x_UnknownFeature)) (.ret (.bl B true)) := rfl
end K1

set_option Elab.async false
set_option linter.all false
set_option maxRecDepth 100000
namespace K1
open PySem PySem.Spec PyProof.Rows L2 Evl Dv
def ens (ws : List (List Str)) : List En := List.zipWith (fun n w => ⟨true, n, wD w⟩) L6 ws
theorem rows_ens (ws : List (List Str)) : rows ws = (ens ws).map En.d := by
  unfold rows ens
  rw [List.map_zipWith]
  exact rfl
theorem ens_len {ws : List (List Str)} (h : ws.length ≤ 6) : (ens ws).length = ws.length := by
  unfold ens
  rw [List.length_zipWith]
  have : L6.length = 6 := rfl
  omega
theorem ens_names : ∀ {ws : List (List Str)}, ws.length ≤ 6 → (ens ws).map En.n = L6.take ws.length
  | [], _ => rfl
  | [_], _ => rfl
  | [_, _], _ => rfl
  | [_, _, _], _ => rfl
  | [_, _, _, _], _ => rfl
  | [_, _, _, _, _], _ => rfl
  | [_, _, _, _, _, _], _ => rfl
  | _ :: _ :: _ :: _ :: _ :: _ :: _ :: _, h => by simp at h
theorem L6_nd : L6.Nodup := by decide +kernel
theorem mem_zip {α β γ : Type} {f : α → β → γ} : ∀ {l : List α} {m : List β} {z : γ}, z ∈ List.zipWith f l m → ∃ a ∈ l, ∃ b ∈ m, z = f a b
  | [], _, _, h => by simp at h
  | _ :: _, [], _, h => by simp at h
  | a :: l, b :: m, z, h => by
    rw [List.zipWith_cons_cons] at h
    rcases List.mem_cons.mp h with rfl | h
    · exact ⟨a, List.mem_cons_self .., b, List.mem_cons_self .., rfl⟩
    · obtain ⟨a', ha, b', hb, e⟩ := mem_zip h
      exact ⟨a', List.mem_cons_of_mem _ ha, b', List.mem_cons_of_mem _ hb, e⟩
theorem ens_isf {B : Bs} {ws : List (List Str)} (h : Fok ws) : ∀ e ∈ ens ws, ∀ s, g_is_feature B [.str e.n, e.w] s = .ret (.bl true) s := fun e he s => by
  obtain ⟨n, hn, w, hw, rfl⟩ := mem_zip he
  exact isf_all n hn w (wok_mem (h.wok w hw))
theorem ens_ok {B : Bs} {ws : List (List Str)} (h : Fok ws) : Eok B (ens ws) :=
  ⟨by rw [ens_len h.len]; exact h.len, by rw [ens_len h.len]; exact h.pos, by rw [ens_names h.len]; exact L6_nd.sublist (List.take_sublist _ _), ens_isf h⟩
theorem fD_eq (ws : List (List Str)) : fD ws = .tup true ((ens ws).map En.d) := by
  unfold fD
  rw [rows_ens]
section
variable {B : Bs} {s : HS} {r t x3 x4 x5 x6 x7 x8 x9 x10 x11 x12 x13 x14 : Sl}
theorem s0 (hs : s.cells.length ≤ 63) : ∃ ws s', (st0 B).ev [r, .fr .hnd, t, x3, x4, x5, x6, x7, x8, x9, x10, x11, x12, x13, x14] s = .nxt [r, .fr .hnd, t, .fr (fD ws), x4, x5, x6, x7, x8, x9, x10, x11, x12, x13, x14] s' ∧ Fok ws ∧ s'.cells.length = s.cells.length := by
  obtain ⟨ws, s', e, h1, h2⟩ := features_ok (B := B) hs
  exact ⟨ws, s', ev_set (ev_call2 (ev_var rfl) rfl e), h1, h2⟩
theorem ev_par {Γ : Gm} {i j : Nat} {p q : XE B} {d e : D} {s1 s2 : HS} (h1 : p.ev Γ s = .ret d s1) (h2 : q.ev Γ s1 = .ret e s2) : (XS.par i j p q).ev Γ s = .nxt ((Γ.set i (.fr d)).set j (.fr e)) s2 := by
  show (p.ev Γ s).out Γ _ = _
  rw [h1]
  show (q.ev Γ s1).out Γ _ = _
  rw [h2]
  exact rfl
theorem ev_make1 {Γ : Gm} {p : XE B} {d : D} {s1 : HS} {R : Res} {c : Str} {g : Gf} {h1 : [p].length = 1} {h2} (e1 : p.ev Γ s = .ret d s1) (e2 : g [d] s1 = R) : (XE.make c 1 g [p] h1 h2).ev Γ s = R := by
  show (p.ev Γ s).bind _ = _
  rw [e1]
  exact e2
theorem make_ok {ws : List (List Str)} (h : Fok ws) : g_Catalog__init__ B [fD ws] s = .ret (cat (ens ws)) s := by
  rw [fD_eq]
  exact cat_good (ens_ok h)
theorem s1 {ws : List (List Str)} (h : Fok ws) (hs : s.cells.length ≤ 63) : ∃ (p : Nat) (s' : HS), (st1 B).ev [r, .fr .hnd, t, .fr (fD ws), x4, x5, x6, x7, x8, x9, x10, x11, x12, x13, x14] s = .nxt [r, .fr .hnd, t, .fr (fD ws), .fr (cat (ens ws)), .fr (.int (p : Nat)), x6, x7, x8, x9, x10, x11, x12, x13, x14] s' ∧ p ≤ (ens ws).length ∧ s'.cells.length = s.cells.length := by
  have hl := ens_len h.len
  have h6 := h.len
  obtain ⟨v, s', e, v0, v1, hc⟩ := next_ok (B := B) (n := (((rows ws).length : Nat) : Int) + 1) (s := s) (by omega) (by rw [rows_ens, List.length_map]; omega) hs
  refine ⟨v.toNat, s', ?_, by rw [rows_ens, List.length_map] at v1; omega, hc⟩
  have ev : ((v.toNat : Nat) : Int) = v := by omega
  rw [ev]
  exact ev_par (ev_make1 (ev_var rfl) (make_ok h)) (ev_call2 (ev_var rfl) (ev_op2 (ev_lenT (ev_var rfl)) rfl rfl) e)
def bad0 : List D := [.tup true [.str "", .tup true [.str "a", .str "b"]], .tup true [.str "Hue", .tup true [.str "a", .str "b"]], .tup true [.str "ninelette", .tup true [.str "a", .str "b"]], .tup true [.str "x", .tup true [.str "a"]]]
def bad1 : List D := [.tup true [.str "x", .tup true [.str "b", .str "a"]], .tup true [.str "x", .tup true [.str "a", .str "a"]]]
def bad2 : List D := [.tup true [.str "x", .tup true [.str "a", .str "B"]], .tup true [.str "x", .tup true [.str "", .str "a"]], .tup true [.str "x", .tup true [.str "aa", .str "ab", .str "ac", .str "ad", .str "ae", .str "af", .str "ag", .str "ah", .str "ai"]]]
def bads : List D := bad0 ++ bad1 ++ bad2
theorem s2 {f c p : D} : (st2 B).ev [r, .fr .hnd, t, .fr f, .fr c, .fr p, x6, x7, x8, x9, x10, x11, x12, x13, x14] s = .nxt [r, .fr .hnd, t, .fr f, .fr c, .fr p, .lo bad0, x7, x8, x9, x10, x11, x12, x13, x14] s := rfl
theorem s3 {f c p : D} : (st3 B).ev [r, .fr .hnd, t, .fr f, .fr c, .fr p, .lo bad0, x7, x8, x9, x10, x11, x12, x13, x14] s = .nxt [r, .fr .hnd, t, .fr f, .fr c, .fr p, .lo (bad0 ++ bad1), x7, x8, x9, x10, x11, x12, x13, x14] s := rfl
theorem s4 {f c p : D} : (st4 B).ev [r, .fr .hnd, t, .fr f, .fr c, .fr p, .lo (bad0 ++ bad1), x7, x8, x9, x10, x11, x12, x13, x14] s = .nxt [r, .fr .hnd, t, .fr f, .fr c, .fr p, .lo bads, x7, x8, x9, x10, x11, x12, x13, x14] s := rfl
end
end K1

set_option Elab.async false
set_option linter.all false
set_option maxRecDepth 100000
namespace K1
open PySem PySem.Spec PyProof.Rows L2 Evl Dv
section
variable {B : Bs} {s : HS} {r t x3 x4 x5 x6 x7 x8 x9 x10 x11 x12 x13 x14 : Sl}
theorem ev_ifT {Γ : Gm} {u : XT B} {p q : XE B} {s1 : HS} {R : Res} (h : u.ev Γ s = .ret (.bl true) s1) (h2 : p.ev Γ s1 = R) : (XE.ifx u p q).ev Γ s = R := by
  show (u.ev Γ s).bindB _ = _
  rw [h]
  show (if true = true then p.ev Γ s1 else q.ev Γ s1) = _
  rw [if_pos rfl]
  exact h2
theorem ev_ifF {Γ : Gm} {u : XT B} {p q : XE B} {s1 : HS} {R : Res} (h : u.ev Γ s = .ret (.bl false) s1) (h2 : q.ev Γ s1 = R) : (XE.ifx u p q).ev Γ s = R := by
  show (u.ev Γ s).bindB _ = _
  rw [h]
  show (if false = true then p.ev Γ s1 else q.ev Γ s1) = _
  rw [if_neg Bool.false_ne_true]
  exact h2
def lb (p : Nat) : D := if 0 < p then .tup true [.str "hue", .tup true [.str "a", .str "b"]] else .tup true [.str "x", .tup true []]
theorem first_row {ws : List (List Str)} (h : Fok ws) : ∃ w, atI (rows ws) 0 = some (pD "hue" w) := by
  match ws, h.pos with
  | w :: tl, _ =>
    obtain ⟨x, a1, a2, _⟩ := at_emod (xs := rows (w :: tl)) (k := 0) (Int.le_refl _) (by show (0 : Int) < ((List.zipWith pD L6 (w :: tl)).length : Nat); simp [L6])
    have e : (rows (w :: tl))[(0 : Int).toNat]? = some (pD "hue" w) := rfl
    rw [e] at a2
    exact ⟨w, by rw [a1, Option.some.inj a2]⟩
theorem s5 {ws : List (List Str)} (h : Fok ws) {c : D} {p : Nat} : (st5 B).ev [r, .fr .hnd, t, .fr (fD ws), .fr c, .fr (.int (p : Nat)), .lo bads, x7, x8, x9, x10, x11, x12, x13, x14] s = .nxt [r, .fr .hnd, t, .fr (fD ws), .fr c, .fr (.int (p : Nat)), .lo (bads ++ [lb p]), x7, x8, x9, x10, x11, x12, x13, x14] s := by
  obtain ⟨w, hw⟩ := first_row h
  refine ev_app (ds := bads) (d := lb p) rfl (by decide) ?_
  by_cases hp : 0 < p
  · have e : lb p = .tup true [.str "hue", .tup true [.str "a", .str "b"]] := if_pos hp
    rw [e]
    refine ev_ifT (s1 := s) (ev_ofE (ev_op2 (ev_var rfl) rfl (by show some (D.bl (decide ((0 : Int) < ((p : Nat) : Int)))) = _; rw [decide_eq_true (by omega)]))) ?_
    exact ev_tup2 (ev_ixT (ds := [.str "hue", wD w]) (ev_ixT (ds := rows ws) (ev_var rfl) rfl hw) rfl rfl) rfl
  · have e : lb p = .tup true [.str "x", .tup true []] := if_neg hp
    rw [e]
    exact ev_ifF (s1 := s) (ev_ofE (ev_op2 (ev_var rfl) rfl (by show some (D.bl (decide ((0 : Int) < ((p : Nat) : Int)))) = _; rw [decide_eq_false (by omega)]))) rfl
theorem cut_lo {ds : List D} {p : Nat} (h : p ≤ ds.length) : Dv.cutD ds none (some (p : Nat)) = ds.take p := by
  unfold Dv.cutD
  have e1 : HT.sIx ds.length 0 none = 0 := rfl
  have e2 : HT.sIx ds.length ds.length (some ((p : Nat) : Int)) = p := by
    rw [HT.sIx_nat]
    omega
  rw [e1, e2, List.drop_zero, Nat.sub_zero]
theorem cut_hi {ds : List D} {p : Nat} (h : p ≤ ds.length) : Dv.cutD ds (some (p : Nat)) none = ds.drop p := by
  unfold Dv.cutD
  have e1 : HT.sIx ds.length ds.length none = ds.length := rfl
  have e2 : HT.sIx ds.length 0 (some ((p : Nat) : Int)) = p := by
    rw [HT.sIx_nat]
    omega
  rw [e1, e2, List.take_of_length_le (by rw [List.length_drop]; exact Nat.le_refl _)]
theorem add_tup {a b : Bool} {xs ys : List D} (h : xs.length + ys.length ≤ 100000) : (o_add B).f (.tup a xs) (.tup b ys) = some (.tup false (xs ++ ys)) := by
  show (if xs.length + ys.length ≤ 100000 then some (D.tup false (xs ++ ys)) else none) = _
  exact if_pos h
theorem ev_sliLo {Γ : Gm} {pe qe : XE B} {pl : Bool} {ds : List D} {k : Int} {s1 s2 : HS} (h1 : pe.ev Γ s = .ret (.tup pl ds) s1) (h2 : qe.ev Γ s1 = .ret (.int k) s2) : (XE.sli pe none (some qe)).ev Γ s = .ret (.tup false (Dv.cutD ds none (some k))) s2 := by
  show (pe.ev Γ s).bind _ = _
  rw [h1]
  show (qe.ev Γ s1).bind _ = _
  rw [h2]
  exact rfl
theorem ev_sliHi {Γ : Gm} {pe qe : XE B} {pl : Bool} {ds : List D} {k : Int} {s1 s2 : HS} (h1 : pe.ev Γ s = .ret (.tup pl ds) s1) (h2 : qe.ev Γ s1 = .ret (.int k) s2) : (XE.sli pe (some qe) none).ev Γ s = .ret (.tup false (Dv.cutD ds (some k) none)) s2 := by
  show (pe.ev Γ s).bind _ = _
  rw [h1]
  show (qe.ev Γ s1).bind _ = _
  rw [h2]
  exact rfl
theorem ev_tup1 {Γ : Gm} {pe : XE B} {d : D} {s1 : HS} {h : [pe].length ≤ 100000} (h1 : pe.ev Γ s = .ret d s1) : (XE.tup [pe] h).ev Γ s = .ret (.tup true [d]) s1 := by
  show (pe.ev Γ s).bind _ = _
  rw [h1]
  exact rfl
def wrong (ws : List (List Str)) (p : Nat) (b : D) : D := .tup false ((rows ws).take p ++ [b] ++ (rows ws).drop p)
theorem s6 {ws : List (List Str)} (h : Fok ws) {c : D} {p : Nat} (hp : p ≤ (rows ws).length) (hs : s.cells.length ≤ 63) : ∃ b s', b ∈ bads ++ [lb p] ∧ s'.cells.length = s.cells.length ∧
    (st6 B).ev [r, .fr .hnd, t, .fr (fD ws), .fr c, .fr (.int (p : Nat)), .lo (bads ++ [lb p]), x7, x8, x9, x10, x11, x12, x13, x14] s = .nxt [r, .fr .hnd, t, .fr (fD ws), .fr c, .fr (.int (p : Nat)), .fr (.lst (bads ++ [lb p])), .fr (wrong ws p b), x8, x9, x10, x11, x12, x13, x14] s' := by
  obtain ⟨v, s', e, v0, v1, hc⟩ := next_ok (B := B) (n := 10) (s := s) (by decide) (by decide) hs
  obtain ⟨b, a1, a2, _⟩ := at_emod (xs := bads ++ [lb p]) v0 (by show v < 10; exact v1)
  refine ⟨b, s', List.mem_of_getElem? a2, hc, ?_⟩
  have hr : (rows ws).length ≤ 6 := by rw [rows_ens, List.length_map, ens_len h.len]; exact h.len
  have q : (XE.op2 (o_add B) (.op2 (o_add B) (.sli (.var B 3) none (some (.var B 5))) (.tup [(.ix [("Catalog", g_Catalog__getitem__ B)] (.var B 6) (.call 2 (g__law_next B) [(.var B 1), (.int B 10)] rfl))])) (.sli (.var B 3) (some (.var B 5)) none)).ev [r, .fr .hnd, t, .fr (fD ws), .fr c, .fr (.int (p : Nat)), .fr (.lst (bads ++ [lb p])), x7, x8, x9, x10, x11, x12, x13, x14] s = .ret (wrong ws p b) s' := by
    refine ev_op2 (ev_op2 (ev_sliLo (ev_var rfl) (ev_var rfl)) (ev_tup1 (ev_ixL (ev_var rfl) (ev_call2 (ev_var rfl) rfl e) a1)) (add_tup ?_)) (ev_sliHi (ev_var rfl) (ev_var rfl)) ?_
    · rw [cut_lo hp, List.length_take]; simp; omega
    · rw [cut_lo hp, cut_hi hp]
      exact add_tup (by simp; omega)
  exact ev_frz (ev_set (i := 7) q)
end
end K1

set_option Elab.async false
set_option linter.all false
set_option maxRecDepth 100000
namespace K1
open PySem PySem.Spec PyProof.Rows L2 Evl Dv
theorem bads_ok {B : Bs} : ∀ b ∈ bads, ∃ e : En, b = e.d ∧ ∀ s, g_is_feature B [.str e.n, e.w] s = .ret (.bl false) s := by
  show ∀ b ∈ [D.tup true [.str "", .tup true [.str "a", .str "b"]], .tup true [.str "Hue", .tup true [.str "a", .str "b"]], .tup true [.str "ninelette", .tup true [.str "a", .str "b"]], .tup true [.str "x", .tup true [.str "a"]],
    .tup true [.str "x", .tup true [.str "b", .str "a"]], .tup true [.str "x", .tup true [.str "a", .str "a"]], .tup true [.str "x", .tup true [.str "a", .str "B"]], .tup true [.str "x", .tup true [.str "", .str "a"]],
    .tup true [.str "x", .tup true [.str "aa", .str "ab", .str "ac", .str "ad", .str "ae", .str "af", .str "ag", .str "ah", .str "ai"]]], _
  repeat' (refine List.forall_mem_cons.2 ⟨?_, ?_⟩)
  all_goals first
    | exact fun _ h => (List.not_mem_nil h).elim
    | exact ⟨⟨true, _, _⟩, rfl, fun _ => rfl⟩
theorem lb_ok {B : Bs} {p : Nat} {es : List En} (hn : 0 < p → ("hue" : Str) ∈ es.map En.n) : ∃ e : En, lb p = e.d ∧ (e.n ∈ es.map En.n ∨ ∀ s, g_is_feature B [.str e.n, e.w] s = .ret (.bl false) s) := by
  by_cases hp : 0 < p
  · exact ⟨⟨true, "hue", .tup true [.str "a", .str "b"]⟩, if_pos hp, .inl (hn hp)⟩
  · exact ⟨⟨true, "x", .tup true []⟩, if_neg hp, .inr fun _ => rfl⟩
section
variable {B : Bs} {s : HS} {r t x3 x4 x5 x6 x7 x8 x9 x10 x11 x12 x13 x14 : Sl}
theorem wrong_ok {ws : List (List Str)} (h : Fok ws) {p : Nat} (hp : p ≤ (rows ws).length) {b : D} (hb : b ∈ bads ++ [lb p]) {x} : g__law_index B x [wrong ws p b] s = .ret (.int (p : Nat)) s := by
  have hr : (rows ws).length = (ens ws).length := by rw [rows_ens, List.length_map]
  have hE := ens_ok (B := B) h
  have hlen : ((ens ws).take p).length = p := by rw [List.length_take]; omega
  have hue : 0 < p → ("hue" : Str) ∈ ((ens ws).take p).map En.n := fun h0 => by
    rw [List.map_take, ens_names h.len]
    match ws, h.pos, p, h0 with
    | w :: tl, _, p + 1, _ => exact List.mem_cons_self ..
  obtain ⟨e, he, hk⟩ : ∃ e : En, b = e.d ∧ (e.n ∈ ((ens ws).take p).map En.n ∨ ∀ s, g_is_feature B [.str e.n, e.w] s = .ret (.bl false) s) := by
    rcases List.mem_append.mp hb with z | z
    · obtain ⟨e, h1, h2⟩ := bads_ok (B := B) b z
      exact ⟨e, h1, .inr h2⟩
    · rw [List.mem_singleton.mp z]
      exact lb_ok hue
  have key := cat_bad (B := B) (es := (ens ws).take p) (e := e) (tl := (rows ws).drop p) (pl := false) (s := s) (by have := hE.len; omega) (hE.nd.sublist ((List.take_sublist _ _).map _)) (fun e' h' => hE.isf e' (List.mem_of_mem_take h')) (by
    rcases hk with z | z
    · exact ⟨false, fun _ n => absurd z n, .inr (.inl z)⟩
    · exact ⟨false, fun _ _ => z s, .inr (.inr rfl)⟩)
  rw [hlen] at key
  have e2 : wrong ws p b = .tup false (((ens ws).take p).map En.d ++ e.d :: (rows ws).drop p) := by
    unfold wrong
    rw [List.map_take, ← rows_ens, he]
    simp
  rw [e2]
  exact index_ok key
theorem s7 {ws : List (List Str)} (h : Fok ws) {p : Nat} (hp : p ≤ (rows ws).length) {b : D} (hb : b ∈ bads ++ [lb p]) {f c l : D} {x} : (st7 B x).ev [r, .fr .hnd, t, .fr f, .fr c, .fr (.int (p : Nat)), .fr l, .fr (wrong ws p b), x8, x9, x10, x11, x12, x13, x14] s = .nxt [r, .fr .hnd, t, .fr f, .fr c, .fr (.int (p : Nat)), .fr l, .fr (wrong ws p b), x8, x9, x10, x11, x12, x13, x14] s :=
  ev_iteF (ev_notT (k := true) (ev_ofE (ev_call2 (ev_call1 (ev_var rfl) (wrong_ok h hp hb)) (ev_var rfl) (alike_ok 6 _ s (.inr (.inl ⟨_, rfl⟩))))))
/-! ### six names and one more -/
def w2 : D := .tup true [.str "a", .str "b"]
def e6 : List En := [⟨true, "fa", w2⟩, ⟨true, "fb", w2⟩, ⟨true, "fc", w2⟩, ⟨true, "fd", w2⟩, ⟨true, "fe", w2⟩, ⟨true, "ff", w2⟩]
def more : D := .tup true (e6.map En.d)
theorem e6_ok : Eok B e6 := ⟨by decide, by decide, by decide +kernel, by
  unfold e6
  repeat' (refine List.forall_mem_cons.2 ⟨?_, ?_⟩)
  all_goals first
    | exact fun _ h => (List.not_mem_nil h).elim
    | exact fun _ => rfl⟩
theorem s8 {f c p l m : D} : (st8 B).ev [r, .fr .hnd, t, .fr f, .fr c, .fr p, .fr l, .fr m, x8, x9, x10, x11, x12, x13, x14] s = .nxt [r, .fr .hnd, t, .fr f, .fr c, .fr p, .fr l, .fr m, .fr more, x9, x10, x11, x12, x13, x14] s := rfl
theorem seven {z : D} {x} : g__law_index B x [.tup false (e6.map En.d ++ [.tup true [.str "z", z]])] s = .ret (.int 6) s :=
  index_ok (cat_bad (B := B) (es := e6) (e := ⟨true, "z", z⟩) (tl := []) (pl := false) (s := s) (by decide) (by decide +kernel) e6_ok.isf ⟨false, fun n _ => absurd rfl n, .inl rfl⟩)
theorem ev_lst3 {Γ : Gm} {p q v : XE B} {d e z : D} {s1 s2 s3 : HS} {h : [p, q, v].length ≤ 100000} (h1 : p.ev Γ s = .ret d s1) (h2 : q.ev Γ s1 = .ret e s2) (h3 : v.ev Γ s2 = .ret z s3) : (XE.ofN (XN.lst [p, q, v] h)).ev Γ s = .ret (.lst [d, e, z]) s3 := by
  show (p.ev Γ s).bind _ = _
  rw [h1]
  show (q.ev Γ s1).bind _ = _
  rw [h2]
  show (v.ev Γ s2).bind _ = _
  rw [h3]
  exact rfl
theorem s9 {f c p l m : D} {x} : (st9 B x).ev [r, .fr .hnd, t, .fr f, .fr c, .fr p, .fr l, .fr m, .fr more, x9, x10, x11, x12, x13, x14] s = .nxt [r, .fr .hnd, t, .fr f, .fr c, .fr p, .fr l, .fr m, .fr more, .fr (.lst [.int 0, .int 6, .int 6]), x10, x11, x12, x13, x14] s :=
  ev_set (ev_lst3 (s1 := s) (s2 := s) (s3 := s) (ev_call1 (d := .tup true []) (s1 := s) rfl (index_ok cat_none)) (ev_call1 (s1 := s) (ev_op2 (s1 := s) (s2 := s) (ev_var rfl) (e := .tup true [.tup true [.str "z", w2]]) rfl rfl) seven) (ev_call1 (s1 := s) (ev_op2 (s1 := s) (s2 := s) (ev_var rfl) (e := .tup true [.tup true [.str "z", .tup true []]]) rfl rfl) seven))
end
end K1

set_option Elab.async false
set_option linter.all false
set_option maxRecDepth 100000
namespace K1
open PySem PySem.Spec PyProof.Rows L2 Evl Dv
section
variable {B : Bs} {s : HS} {r t x3 x4 x5 x6 x7 x8 x9 x10 x11 x12 x13 x14 : Sl}
theorem len_ok {es : List En} : g_Catalog__len__ B [cat es] s = .ret (.int ((es.map En.d).length : Nat)) s := rfl
theorem hd_self {c : Str} {g : Gf} : Hd.at [(c, g)] c = some g := by
  unfold Hd.at
  rw [List.find?_cons]
  simp
theorem ev_lenIns {Γ : Gm} {pe : XE B} {hs : Hd} {c : Str} {fs : List (Str × D)} {g : Gf} {n : Int} {s1 s2 : HS} (h : pe.ev Γ s = .ret (.ins c fs) s1) (h1 : hs.at c = some g) (h2 : g [.ins c fs] s1 = .ret (.int n) s2) (h3 : 0 ≤ n ∧ n < 2 ^ 63) : (XE.len hs pe).ev Γ s = .ret (.int n) s2 := by
  have e : (XE.len hs pe).ev Γ s = (pe.ev Γ s).bind fun d s1 => lenE hs d s1 := rfl
  rw [e, h]
  unfold Res.bind
  dsimp only
  unfold lenE
  dsimp only
  rw [h1]
  dsimp only
  rw [h2]
  dsimp only
  rw [if_pos h3]
theorem small63 {n : Nat} (h : n ≤ 6) : (0 : Int) ≤ (n : Nat) ∧ ((n : Nat) : Int) < 2 ^ 63 := ⟨Int.natCast_nonneg _, by omega⟩
theorem len_ok' {es : List En} : g_Catalog__len__ B [cat es] s = .ret (.int (es.length : Nat)) s := by
  rw [len_ok, List.length_map]
theorem ev_lenI {Γ : Gm} {pe : XE B} {es : List En} {s1 : HS} (h : pe.ev Γ s = .ret (cat es) s1) (hl : es.length ≤ 6) : (XE.len [("Catalog", g_Catalog__len__ B)] pe).ev Γ s = .ret (.int (es.length : Nat)) s1 :=
  ev_lenIns (n := ((es.length : Nat) : Int)) h (hd_self) len_ok' (small63 hl)
theorem ne_intH {hs : Hd} {x : Int} : eqE true hs (.int x) (.int x) s = .ret (.bl false) s := ne_int
theorem s10 {f c p l m : D} : (st10 B).ev [r, .fr .hnd, t, .fr f, .fr c, .fr p, .fr l, .fr m, .fr more, .fr (.lst [.int 0, .int 6, .int 6]), x10, x11, x12, x13, x14] s = .nxt [r, .fr .hnd, t, .fr f, .fr c, .fr p, .fr l, .fr m, .fr more, .fr (.lst [.int 0, .int 6, .int 6]), x10, x11, x12, x13, x14] s := by
  have a := alike_ok (B := B) 6 (.lst [.int 0, .int 6, .int 6]) s (.inr (.inr (.inr ⟨_, rfl, by decide, by
    intro z hz
    have : ∃ i, z = .int i := by
      simp at hz
      rcases hz with rfl | rfl
      · exact ⟨_, rfl⟩
      · exact ⟨_, rfl⟩
    obtain ⟨i, rfl⟩ := this
    exact .inr (.inl ⟨i, rfl⟩)⟩)))
  refine ev_iteF (ev_orF (s1 := s) (ev_notT (k := true) (ev_ofE (ev_call2 (s1 := s) (s2 := s) (ev_var rfl) rfl a))) (ev_ofE (ev_eq (s1 := s) (s2 := s) (ev_lenI (es := e6) (ev_make1 (s1 := s) (ev_var rfl) (cat_good e6_ok)) (by decide)) rfl ne_intH)))
theorem row_names {Γ : Gm} : ∀ (es : List En) (s : HS), lcL (XG.name B 14).as (XT.yes B).ev (XE.ix [("Catalog", g_Catalog__getitem__ B)] (XE.var B 14) (XE.int B 0)).ev [14] [r, .fr .hnd, t, x3, x4, x5, x6, x7, x8, x9, x10, x11, x12, x13, .no] (es.map En.d) s = some (es.map fun e => .str e.n, s)
  | [], s => rfl
  | e :: tl, s => by
    refine lc_put (l := [(14, e.d)]) (s1 := s) (s2 := s) (z := .str e.n) rfl rfl rfl ?_ (row_names (Γ := Γ) tl s)
    exact ev_ixT (s1 := s) (s2 := s) (ds := [.str e.n, e.w]) (pl := e.pl) (ev_var rfl) rfl rfl
def due (ws : List (List Str)) : D := .lst [fD ws, .tup true ((ens ws).map fun e => .str e.n), .int ((ens ws).length : Nat)]
theorem s11 {ws : List (List Str)} (h : Fok ws) {c p l m n : D} : (st11 B).ev [r, .fr .hnd, t, .fr (fD ws), .fr c, .fr p, .fr l, .fr m, .fr more, .fr n, x10, x11, x12, x13, x14] s = .nxt [r, .fr .hnd, t, .fr (fD ws), .fr c, .fr p, .fr l, .fr m, .fr more, .fr n, .fr (due ws), x11, x12, x13, x14] s := by
  have hl : (rows ws).length ≤ 6 := by rw [rows_ens, List.length_map, ens_len h.len]; exact h.len
  refine ev_set (ev_lst3 (s1 := s) (s2 := s) (s3 := s) (ev_var rfl) (ev_blt1 (d := .lst ((ens ws).map fun e => .str e.n)) (s1 := s) (ev_lc (ds := rows ws) (s1 := s) (ev_of (ev_var rfl) rfl) (by omega) ?_) rfl) ?_)
  · rw [rows_ens]
    exact row_names (Γ := []) (ens ws) s
  · have e : (rows ws).length = (ens ws).length := by rw [rows_ens, List.length_map]
    rw [← e]
    exact ev_lenT (ev_var rfl)
end
end K1

set_option Elab.async false
set_option linter.all false
set_option maxRecDepth 100000
namespace K1
open PySem PySem.Spec PyProof.Rows L2 Evl Dv
theorem sh_L6 : ∀ n ∈ L6, SeqAt.shaped (.str n) = true := by decide +kernel
theorem sh_W5 : ∀ n ∈ W5, SeqAt.shaped (.str n) = true := by decide +kernel
theorem al_words {w : List Str} (h : Wok w) (k : Nat) : Al (k + 2) (wD w) := by
  have hl : w.length ≤ 5 := h.1.length_le
  refine .inr (.inr (.inl ⟨true, sD w, rfl, by simp [sD]; omega, fun z hz => ?_⟩))
  obtain ⟨x, hx, rfl⟩ := List.mem_map.mp hz
  exact .inl ⟨x, rfl, sh_W5 x (h.1.subset hx)⟩
theorem al_row {e : En} {ws : List (List Str)} (h : Fok ws) (he : e ∈ ens ws) (k : Nat) : Al (k + 3) e.d ∧ Al (k + 2) e.w ∧ e.n ∈ L6 := by
  obtain ⟨n, hn, w, hw, rfl⟩ := mem_zip he
  refine ⟨.inr (.inr (.inl ⟨true, [.str n, wD w], rfl, Nat.le_of_ble_eq_true rfl, fun z hz => ?_⟩)), al_words (h.wok w hw) k, hn⟩
  rcases List.mem_cons.mp hz with rfl | hz
  · exact .inl ⟨n, rfl, sh_L6 n hn⟩
  · rcases List.mem_cons.mp hz with rfl | hz
    · exact al_words (h.wok w hw) k
    · cases hz
theorem al_feat {ws : List (List Str)} (h : Fok ws) (k : Nat) : Al (k + 4) (fD ws) := by
  rw [fD_eq]
  refine .inr (.inr (.inl ⟨true, _, rfl, by rw [List.length_map, ens_len h.len]; have := h.len; omega, fun z hz => ?_⟩))
  obtain ⟨e, he, rfl⟩ := List.mem_map.mp hz
  exact (al_row h he k).1
theorem al_due {ws : List (List Str)} (h : Fok ws) : Al 6 (due ws) := by
  refine .inr (.inr (.inr ⟨_, rfl, Nat.le_of_ble_eq_true rfl, fun z hz => ?_⟩))
  rcases List.mem_cons.mp hz with rfl | hz
  · exact al_feat h 1
  · rcases List.mem_cons.mp hz with rfl | hz
    · refine .inr (.inr (.inl ⟨true, _, rfl, by rw [List.length_map, ens_len h.len]; have := h.len; omega, fun z hz => ?_⟩))
      obtain ⟨e, he, rfl⟩ := List.mem_map.mp hz
      exact .inl ⟨e.n, rfl, sh_L6 _ (al_row h he 0).2.2⟩
    · rcases List.mem_cons.mp hz with rfl | hz
      · exact .inr (.inl ⟨_, rfl⟩)
      · cases hz
section
variable {B : Bs} {s : HS} {r t x3 x4 x5 x6 x7 x8 x9 x10 x11 x12 x13 x14 : Sl}
theorem ev_prop {Γ : Gm} {pe : XE B} {c f : Str} {fs : List (Str × D)} {g : Gf} {s1 : HS} {R : Res} (h : pe.ev Γ s = .ret (.ins c fs) s1) (h2 : g [.ins c fs] s1 = R) : (XE.at [(c, .prop g)] f pe).ev Γ s = R := by
  have e : (XE.at [(c, .prop g)] f pe).ev Γ s = (pe.ev Γ s).bind fun d s1 => atE [(c, .prop g)] f d s1 := rfl
  rw [e, h]
  unfold Res.bind
  dsimp only
  unfold atE
  dsimp only
  have h1 : Ats.at [(c, .prop g)] c = some (.prop g) := by
    unfold Ats.at
    rw [List.find?_cons]
    simp
  rw [h1]
  dsimp only
  exact h2
theorem feat_ok {ws : List (List Str)} : g_Catalog_features B [cat (ens ws)] s = .ret (fD ws) s := by
  rw [fD_eq]
  exact rfl
theorem names_ok {ws : List (List Str)} : g_Catalog_names B [cat (ens ws)] s = .ret (.tup true ((ens ws).map fun e => .str e.n)) s := by
  have e : g_Catalog_names B [cat (ens ws)] s = .ret (.tup true (((ens ws).map kv).map fun kv => dKy kv.1)) s := rfl
  rw [e, List.map_map]
  exact rfl
theorem s12 {ws : List (List Str)} (h : Fok ws) {f p l m n o : D} : (st12 B).ev [r, .fr .hnd, t, .fr f, .fr (cat (ens ws)), .fr p, .fr l, .fr m, .fr o, .fr n, .fr (due ws), x11, x12, x13, x14] s = .nxt [r, .fr .hnd, t, .fr f, .fr (cat (ens ws)), .fr p, .fr l, .fr m, .fr o, .fr n, .fr (due ws), x11, x12, x13, x14] s := by
  refine ev_iteF (ev_notT (k := true) (ev_ofE (ev_call2 (s1 := s) (s2 := s) (d := due ws) (ev_lst3 (s1 := s) (s2 := s) (s3 := s) (ev_prop (s1 := s) (ev_var rfl) feat_ok) (ev_prop (s1 := s) (ev_var rfl) names_ok) (ev_lenI (ev_var rfl) (by rw [ens_len h.len]; exact h.len))) (ev_var rfl) (alike_ok 6 _ s (al_due h)))))
theorem any_in {es : List En} {n : Str} : ((es.map kv).any fun kv => decide (kv.1 = .inr n)) = decide (n ∈ es.map En.n) := by
  induction es with
  | nil => simp
  | cons e tl ih =>
    rw [List.map_cons, List.map_cons, List.any_cons, ih]
    show (decide ((Sum.inr e.n : Key) = Sum.inr n) || _) = _
    by_cases h1 : e.n = n
    · simp [h1]
    · have h2 : ¬ n = e.n := fun z => h1 z.symm
      simp [h1, h2]
theorem look_ok {es : List En} (hn : (es.map En.n).Nodup) {e : En} (he : e ∈ es) : lookK (es.map kv) (.inr e.n) = some e.w := by
  induction es with
  | nil => cases he
  | cons g tl ih =>
    unfold lookK
    rw [List.map_cons, List.find?_cons]
    rw [List.map_cons, List.nodup_cons] at hn
    by_cases h1 : g.n = e.n
    · have hge : g = e := by
        rcases List.mem_cons.mp he with z | z
        · exact z.symm
        · exact absurd (List.mem_map.mpr ⟨e, z, h1.symm⟩) hn.1
      subst hge
      have : decide ((kv g).1 = Sum.inr g.n) = true := decide_eq_true rfl
      rw [this]
      exact rfl
    · have : decide ((kv g).1 = Sum.inr e.n) = false := decide_eq_false fun z => h1 (Sum.inr.inj z)
      rw [this]
      rcases List.mem_cons.mp he with z | z
      · exact absurd (by rw [z]) h1
      · exact ih hn.2 z
theorem has_ok {es : List En} {n : Str} : g_Catalog__contains__ B [cat es, .str n] s = .ret (.bl (decide (n ∈ es.map En.n))) s := by
  have e : g_Catalog__contains__ B [cat es, .str n] s = .ret (.bl ((es.map kv).any fun kv => decide (kv.1 = .inr n))) s := rfl
  rw [e, any_in]
theorem ev_ixK {Γ : Gm} {pe qe : XE B} {hs : Hd} {kvs : List (Key × D)} {x : Str} {z : D} {s1 s2 : HS} (h1 : pe.ev Γ s = .ret (.dic kvs) s1) (h2 : qe.ev Γ s1 = .ret (.str x) s2) (h : lookK kvs (.inr x) = some z) : (XE.ix hs pe qe).ev Γ s = .ret z s2 := by
  show (pe.ev Γ s).bind _ = _
  rw [h1]
  show (qe.ev Γ s1).bind _ = _
  rw [h2]
  show Res.opt (lookK kvs (.inr x)) s2 = _
  rw [h]
  exact rfl
theorem get_ev {es : List En} {n : Str} : (XE.at (B := B) [("Catalog", .fld)] "_values" (.var B 0)).ev [.fr (cat es), .fr (.str n)] s = .ret (.dic (es.map kv)) s := rfl
theorem get_ok {es : List En} (hn : (es.map En.n).Nodup) {e : En} (he : e ∈ es) : g_Catalog__getitem__ B [cat es, .str e.n] s = .ret e.w s := by
  have hin : e.n ∈ es.map En.n := List.mem_map.mpr ⟨e, he, rfl⟩
  have t1 : (XE.in true [] (XE.var B 1) (XE.at [("Catalog", .fld)] "_values" (.var B 0))).ev [.fr (cat es), .fr (.str e.n)] s = .ret (.bl false) s := by
    refine ev_in (s1 := s) (s2 := s) (ev_var rfl) get_ev ?_
    show Res.ret (.bl (!((es.map kv).any fun kv => decide (kv.1 = .inr e.n)))) s = _
    rw [any_in, decide_eq_true hin]
    exact rfl
  have ev : (p_Catalog__getitem__ B).ev [.fr (cat es), .fr (.str e.n)] s = .ret e.w s := by
    unfold p_Catalog__getitem__
    rw [ev_seq (ev_iteF (ev_ofE t1))]
    refine ev_ret ?_
    exact ev_ixK (s1 := s) get_ev (ev_var rfl) (look_ok hn he)
  show ((p_Catalog__getitem__ B).ev [.fr (cat es), .fr (.str e.n)] s).res = _
  rw [ev]
  exact rfl
theorem ev_own2 {Γ : Gm} {pe qe : XE B} {c : Str} {fs : List (Str × D)} {d : D} {g : Gf} {s1 s2 : HS} {R : Res} (h : pe.ev Γ s = .ret (.ins c fs) s1) (h1 : qe.ev Γ s1 = .ret d s2) (h2 : g [.ins c fs, d] s2 = R) : (XE.ix [(c, g)] pe qe).ev Γ s = R := by
  show (pe.ev Γ s).bind _ = _
  rw [h]
  show (qe.ev Γ s1).bind _ = _
  rw [h1]
  show (match Hd.at [(c, g)] c with
    | some g => g [.ins c fs, d] s2
    | none => .stuck) = _
  rw [hd_self]
  exact h2
theorem ev_inOwn {Γ : Gm} {pe qe : XE B} {neg : Bool} {c : Str} {fs : List (Str × D)} {d : D} {g : Gf} {s1 s2 s3 : HS} {b : Bool} (h : pe.ev Γ s = .ret d s1) (h1 : qe.ev Γ s1 = .ret (.ins c fs) s2) (h2 : g [.ins c fs, d] s2 = .ret (.bl b) s3) : (XE.in neg [(c, g)] pe qe).ev Γ s = .ret (.bl (if neg then !b else b)) s3 := by
  refine ev_in h h1 ?_
  show (match Hd.at [(c, g)] c with
    | some g => (g [.ins c fs, d] s2).bindB fun b s1 => .ret (.bl (if neg then !b else b)) s1
    | none => .stuck) = _
  rw [hd_self]
  dsimp only
  rw [h2]
  exact rfl
theorem rows_loop {ws : List (List Str)} (h : Fok ws) : ∀ (es : List En) (x11 x12 : Sl) (s : HS), (∀ e ∈ es, e ∈ ens ws) → ∃ y11 y12, forL (XG.tup [(.name B 11), (.name B 12)]) (XS.ite ((XT.or (.ofE (.in true [("Catalog", g_Catalog__contains__ B)] (.var B 11) (.var B 4))) (.not (.ofE (.call 2 (g__law_alike B 6) [(.ix [("Catalog", g_Catalog__getitem__ B)] (.var B 4) (.var B 11)), (.var B 12)] rfl))))) (.ret (.bl B false)) (.pass B)).ev (es.map En.d) [r, .fr .hnd, t, x3, .fr (cat (ens ws)), x5, x6, x7, x8, x9, x10, x11, x12, x13, x14] s = .nxt [r, .fr .hnd, t, x3, .fr (cat (ens ws)), x5, x6, x7, x8, x9, x10, y11, y12, x13, x14] s
  | [], x11, x12, s, _ => ⟨x11, x12, rfl⟩
  | e :: tl, x11, x12, s, he => by
    have hm := he e (List.mem_cons_self ..)
    have hE := ens_ok (B := B) h
    obtain ⟨y11, y12, e2⟩ := rows_loop h tl (.fr (.str e.n)) (.fr e.w) s fun x hx => he x (List.mem_cons_of_mem _ hx)
    refine ⟨y11, y12, ?_⟩
    have hin : e.n ∈ (ens ws).map En.n := List.mem_map.mpr ⟨e, hm, rfl⟩
    have c1 := has_ok (B := B) (s := s) (es := ens ws) (n := e.n)
    rw [decide_eq_true hin] at c1
    refine (for_cons (l := [(11, .str e.n), (12, e.w)]) rfl (Γ2 := [r, .fr .hnd, t, x3, .fr (cat (ens ws)), x5, x6, x7, x8, x9, x10, .fr (.str e.n), .fr e.w, x13, x14]) (s2 := s) ?_).trans e2
    exact ev_iteF (ev_orF (s1 := s) (ev_ofE (ev_inOwn (neg := true) (b := true) (s1 := s) (s2 := s) (ev_var rfl) (ev_var rfl) c1)) (ev_notT (k := true) (ev_ofE (ev_call2 (s1 := s) (s2 := s) (ev_own2 (s1 := s) (s2 := s) (ev_var rfl) (ev_var rfl) (get_ok hE.nd hm)) (ev_var rfl) (alike_ok 6 _ s (al_row h hm 4).2.1)))))
theorem s13 {ws : List (List Str)} (h : Fok ws) : ∃ y11 y12, (st13 B).ev [r, .fr .hnd, t, .fr (fD ws), .fr (cat (ens ws)), x5, x6, x7, x8, x9, x10, x11, x12, x13, x14] s = .nxt [r, .fr .hnd, t, .fr (fD ws), .fr (cat (ens ws)), x5, x6, x7, x8, x9, x10, y11, y12, x13, x14] s := by
  obtain ⟨y11, y12, e⟩ := rows_loop (B := B) (r := r) (t := t) (x3 := .fr (fD ws)) (x5 := x5) (x6 := x6) (x7 := x7) (x8 := x8) (x9 := x9) (x10 := x10) (x13 := x13) (x14 := x14) h (ens ws) x11 x12 s fun _ z => z
  refine ⟨y11, y12, ?_⟩
  unfold st13
  rw [ev_for (ds := rows ws) (ev_of (ev_var rfl) rfl), rows_ens]
  exact e
end
end K1

set_option Elab.async false
set_option linter.all false
set_option maxRecDepth 100000
namespace K1
open PySem PySem.Spec PyProof.Rows L2 Evl Dv
def pw (w : List Str) : PyData := .tuple (w.map PyData.str)
def prow (n : Str) (w : List Str) : PyData := .tuple [.str n, pw w]
theorem pds_words : ∀ w : List Str, pds (sD w) = some (w.map PyData.str)
  | [] => rfl
  | a :: r => by
    show (match pd (.str a) with
      | some x => match pds (sD r) with
        | some xs => some (x :: xs)
        | none => none
      | none => none) = _
    rw [pds_words r]
    exact rfl
theorem pd_wD (w : List Str) : pd (wD w) = some (pw w) := by
  show (pds (sD w)).map PyData.tuple = _
  rw [pds_words]
  exact rfl
theorem pd_pD (n : Str) (w : List Str) : pd (pD n w) = some (prow n w) := by
  show (pds [.str n, wD w]).map PyData.tuple = _
  show (match pd (.str n) with
    | some x => match (match pd (wD w) with
      | some x => match pds [] with
        | some xs => some (x :: xs)
        | none => none
      | none => none) with
      | some xs => some (x :: xs)
      | none => none
    | none => none).map PyData.tuple = _
  rw [pd_wD]
  exact rfl
def prows (ns : List Str) (ws : List (List Str)) : List PyData := List.zipWith prow ns ws
theorem pds_rows : ∀ (ns : List Str) (ws : List (List Str)), pds (List.zipWith pD ns ws) = some (prows ns ws)
  | [], _ => by simp [prows]; exact rfl
  | _ :: _, [] => by simp [prows]; exact rfl
  | n :: ns, w :: ws => by
    rw [List.zipWith_cons_cons]
    show (match pd (pD n w) with
      | some x => match pds (List.zipWith pD ns ws) with
        | some xs => some (x :: xs)
        | none => none
      | none => none) = _
    rw [pd_pD, pds_rows ns ws]
    exact rfl
theorem eqv_words : ∀ w : List Str, PyData.eqvAll (w.map PyData.str) (w.map PyData.str) = true
  | [] => by simp [PyData.eqvAll]
  | a :: r => by rw [List.map_cons]; simp [PyData.eqvAll, PyData.eqv, eqv_words r]
theorem eqv_prow (n : Str) (w : List Str) : PyData.eqv (prow n w) (prow n w) = true := by
  unfold prow pw
  simp [PyData.eqvAll, PyData.eqv, eqv_words w]
theorem eqv_prows : ∀ (ns : List Str) (ws : List (List Str)), PyData.eqvAll (prows ns ws) (prows ns ws) = true
  | [], _ => by simp [prows, PyData.eqvAll]
  | _ :: _, [] => by simp [prows, PyData.eqvAll]
  | n :: ns, w :: ws => by
    show PyData.eqvAll (prow n w :: prows ns ws) (prow n w :: prows ns ws) = true
    rw [PyData.eqvAll, eqv_prow, eqv_prows ns ws]
    exact rfl
theorem lay_words : ∀ w : List Str, (∀ x ∈ w, SeqAt.shaped (.str x) = true) → PyData.canLayAll0 (w.map PyData.str) = true ∧ PyData.depthAll (w.map PyData.str) = 0
  | [], _ => by simp [PyData.canLayAll0, PyData.depthAll]
  | a :: r, h => by
    obtain ⟨h1, h2⟩ := lay_words r fun x hx => h x (List.mem_cons_of_mem _ hx)
    have h3 := SeqAt.canLay_of_shaped (h a (List.mem_cons_self ..))
    rw [List.map_cons]
    simp [PyData.canLayAll0, PyData.depthAll, PyData.depth, h1, h2, h3]
theorem lay_prow {n : Str} {w : List Str} (hn : SeqAt.shaped (.str n) = true) (hw : ∀ x ∈ w, SeqAt.shaped (.str x) = true) : PyData.canLay0 (prow n w) = true ∧ PyData.depth (prow n w) ≤ 2 := by
  obtain ⟨h1, h2⟩ := lay_words w hw
  have h3 := SeqAt.canLay_of_shaped hn
  unfold prow pw
  simp [PyData.canLay0, PyData.canLayAll0, PyData.depth, PyData.depthAll, h1, h2] at h3 ⊢
  exact h3
theorem lay_prows : ∀ (ns : List Str) (ws : List (List Str)), (∀ n ∈ ns, SeqAt.shaped (.str n) = true) → (∀ w ∈ ws, ∀ x ∈ w, SeqAt.shaped (.str x) = true) → PyData.canLayAll0 (prows ns ws) = true ∧ PyData.depthAll (prows ns ws) ≤ 2
  | [], _, _, _ => by simp [prows, PyData.canLayAll0, PyData.depthAll]
  | _ :: _, [], _, _ => by simp [prows, PyData.canLayAll0, PyData.depthAll]
  | n :: ns, w :: ws, hn, hw => by
    obtain ⟨h1, h2⟩ := lay_prows ns ws (fun x hx => hn x (List.mem_cons_of_mem _ hx)) fun x hx => hw x (List.mem_cons_of_mem _ hx)
    obtain ⟨h3, h4⟩ := lay_prow (hn n (List.mem_cons_self ..)) (hw w (List.mem_cons_self ..))
    show PyData.canLayAll0 (prow n w :: prows ns ws) = true ∧ PyData.depthAll (prow n w :: prows ns ws) ≤ 2
    rw [PyData.canLayAll0, PyData.depthAll, h1, h3]
    exact ⟨rfl, by omega⟩
theorem shp {ws : List (List Str)} (h : Fok ws) : SeqAt.shaped (.tuple (prows L6 ws)) = true := by
  obtain ⟨h1, h2⟩ := lay_prows L6 ws sh_L6 fun w hw x hx => sh_W5 x ((h.wok w hw).1.subset hx)
  unfold SeqAt.shaped
  rw [PyData.canLay0, PyData.depth, h1, Bool.true_and, decide_eq_true_eq]
  omega
theorem pd_fD (ws : List (List Str)) : pd (fD ws) = some (.tuple (prows L6 ws)) := by
  show (pds (rows ws)).map PyData.tuple = _
  unfold rows
  rw [pds_rows]
  exact rfl
def zz : En := ⟨true, "zz", w2⟩
section
variable {B : Bs} {s : HS} {r t x3 x4 x5 x6 x7 x8 x9 x10 x11 x12 x13 x14 : Sl}
theorem eqF_of {a b : D} {x y : PyData} (h1 : pd a = some x) (h2 : pd b = some y) (h3 : SeqAt.shaped x = true) (h4 : SeqAt.shaped y = true) : eqF false a b = some (.bl (PyData.eqv x y)) := by
  unfold eqF
  rw [h1, h2]
  dsimp only
  rw [if_pos ⟨h3, h4⟩]
  exact rfl
theorem own_eq {es fs : List En} {k : Bool} (h : eqF false (.tup true (es.map En.d)) (.tup true (fs.map En.d)) = some (.bl k)) : g_Catalog__eq__ B [cat es, cat fs] s = .ret (.bl k) s := by
  have e1 : (XE.isi (B := B) isi_Catalog (.var B 1)).ev [.fr (cat es), .fr (cat fs)] s = .ret (.bl true) s := rfl
  have e2 : (XE.at (B := B) [("Catalog", .fld)] "_features" (.var B 0)).ev [.fr (cat es), .fr (cat fs)] s = .ret (.tup true (es.map En.d)) s := rfl
  have e3 : (XE.at (B := B) [("Catalog", .fld)] "_features" (.var B 1)).ev [.fr (cat es), .fr (cat fs)] s = .ret (.tup true (fs.map En.d)) s := rfl
  have ev : (p_Catalog__eq__ B).ev [.fr (cat es), .fr (cat fs)] s = .ret (.bl k) s := by
    unfold p_Catalog__eq__
    refine ev_ret (ev_andE e1 (ev_eq e2 e3 ?_))
    show Res.opt (eqF false (.tup true (es.map En.d)) (.tup true (fs.map En.d))) s = _
    rw [h]
    exact rfl
  show ((p_Catalog__eq__ B).ev [.fr (cat es), .fr (cat fs)] s).res = _
  rw [ev]
  exact rfl
theorem ev_eqOwn {Γ : Gm} {pe qe : XE B} {neg : Bool} {c : Str} {fs fs' : List (Str × D)} {g : Gf} {s1 s2 s3 : HS} {b : Bool} (h : pe.ev Γ s = .ret (.ins c fs) s1) (h1 : qe.ev Γ s1 = .ret (.ins c fs') s2) (h2 : g [.ins c fs, .ins c fs'] s2 = .ret (.bl b) s3) : (XE.eq neg [(c, g)] pe qe).ev Γ s = .ret (.bl (if neg then !b else b)) s3 := by
  refine ev_eq h h1 ?_
  show (if c = c then match Hd.at [(c, g)] c with
      | some g => (g [.ins c fs, .ins c fs'] s2).bindB fun b s1 => .ret (.bl (if neg then !b else b)) s1
      | none => .stuck
    else .stuck) = _
  rw [if_pos rfl, hd_self]
  dsimp only
  rw [h2]
  exact rfl
theorem zz_ok : Eok B [zz] := ⟨by decide, by decide, by decide +kernel, by
  refine List.forall_mem_cons.2 ⟨fun _ => rfl, fun _ h => (List.not_mem_nil h).elim⟩⟩
theorem no_name {ws : List (List Str)} (h : Fok ws) : ("nofeat" : Str) ∉ (ens ws).map En.n := by
  rw [ens_names h.len]
  exact fun z => absurd (List.mem_of_mem_take z) (by decide +kernel)
theorem s14 {ws : List (List Str)} (h : Fok ws) : (st14 B).ev [r, .fr .hnd, t, .fr (fD ws), .fr (cat (ens ws)), x5, x6, x7, x8, x9, x10, x11, x12, x13, x14] s = .nxt [r, .fr .hnd, t, .fr (fD ws), .fr (cat (ens ws)), x5, x6, x7, x8, x9, x10, x11, x12, x13, x14] s := by
  have c1 := has_ok (B := B) (s := s) (es := ens ws) (n := "nofeat")
  rw [decide_eq_false (no_name h)] at c1
  have q1 : eqF false (.tup true ((ens ws).map En.d)) (.tup true ((ens ws).map En.d)) = some (.bl true) := by
    rw [← fD_eq, eqF_of (pd_fD ws) (pd_fD ws) (shp h) (shp h), PyData.eqv, eqv_prows]
  have q2 : eqF false (.tup true ((ens ws).map En.d)) (.tup true ([zz].map En.d)) = some (.bl false) := by
    rw [← fD_eq, eqF_of (pd_fD ws) (y := .tuple [prow "zz" ["a", "b"]]) rfl (shp h) (by decide +kernel)]
    match ws, h.pos with
    | w :: tl, _ =>
      show some (D.bl (PyData.eqv (.tuple (prow "hue" w :: prows L6.tail tl)) (.tuple [prow "zz" ["a", "b"]]))) = _
      unfold prow
      simp [PyData.eqv, PyData.eqvAll]
      intro z
      exact absurd z (by decide +kernel)
  refine ev_iteF (ev_orF (s1 := s) (ev_ofE (ev_inOwn (neg := false) (b := false) (s1 := s) (s2 := s) rfl (ev_var rfl) c1)) (ev_orF (s1 := s) (ev_ofE (ev_eqOwn (neg := true) (b := true) (s1 := s) (s2 := s) (ev_var rfl) (ev_make1 (s1 := s) (ev_var rfl) (make_ok h)) (own_eq q1))) (ev_ofE (ev_eqOwn (neg := false) (b := false) (s1 := s) (s2 := s) (ev_var rfl) (ev_make1 (s1 := s) (d := .tup true ([zz].map En.d)) rfl (cat_good zz_ok)) (own_eq q2)))))
end
end K1

set_option Elab.async false
set_option linter.all false
set_option maxRecDepth 100000
namespace K1
open PySem PySem.Spec PyProof.Rows L2 Evl Dv
section
variable {B : Bs} {s : HS} {r t x3 x4 x5 x6 x7 x8 x9 x10 x11 x12 x13 x14 : Sl}
theorem ev_rz {Γ : Gm} {p : XE B} {c : Str} {d : D} {s1 : HS} (h : p.ev Γ s = .ret d s1) : (XS.rz c p).ev Γ s = .exc c [] Γ s1 := by
  show (p.ev Γ s).out Γ _ = _
  rw [h]
  exact rfl
theorem get_no {es : List En} (hn : ("nofeat" : Str) ∉ es.map En.n) : g_Catalog__getitem__ B [cat es, .str "nofeat"] s = .exc "UnknownFeature" [] s := by
  have t1 : (XE.in true [] (XE.var B 1) (XE.at [("Catalog", .fld)] "_values" (.var B 0))).ev [.fr (cat es), .fr (.str "nofeat")] s = .ret (.bl true) s := by
    refine ev_in (s1 := s) (s2 := s) (ev_var rfl) get_ev ?_
    show Res.ret (.bl (!((es.map kv).any fun kv => decide (kv.1 = .inr "nofeat")))) s = _
    rw [any_in, decide_eq_false hn]
    exact rfl
  have ej : (XE.jn [(.str B "no feature "), (.fmt (.var B 1))]).ev [.fr (cat es), .fr (.str "nofeat")] s = .ret (.str "no feature nofeat") s := rfl
  have ev : (p_Catalog__getitem__ B).ev [.fr (cat es), .fr (.str "nofeat")] s = .exc "UnknownFeature" [] [.fr (cat es), .fr (.str "nofeat")] s := by
    unfold p_Catalog__getitem__
    show Out.bind _ _ = _
    have e1 := ev_iteT (B := B) (a := .rz "UnknownFeature" (.jn [(.str B "no feature "), (.fmt (.var B 1))])) (b := .pass B) (ev_ofE t1)
    rw [ev_rz ej] at e1
    exact (congrArg (fun o => Out.bind o _) e1).trans rfl
  show ((p_Catalog__getitem__ B).ev [.fr (cat es), .fr (.str "nofeat")] s).res = _
  rw [ev]
  exact rfl
theorem s15 {ws : List (List Str)} (h : Fok ws) {x} : (st15 B x).ev [r, .fr .hnd, t, x3, .fr (cat (ens ws)), x5, x6, x7, x8, x9, x10, x11, x12, x13, x14] s = .nxt [r, .fr .hnd, t, x3, .fr (cat (ens ws)), .fr (.int 0), x6, x7, x8, x9, x10, x11, x12, x13, x14] s := by
  have e0 : (XE.ix [("Catalog", g_Catalog__getitem__ B)] (.var B 4) (.str B "nofeat")).ev [r, .fr .hnd, t, x3, .fr (cat (ens ws)), x5, x6, x7, x8, x9, x10, x11, x12, x13, x14] s = .exc "UnknownFeature" [] s :=
    ev_own2 (s1 := s) (s2 := s) (ev_var rfl) rfl (get_no (no_name h))
  have e1 : (XS.seq (.drop (.ix [("Catalog", g_Catalog__getitem__ B)] (.var B 4) (.str B "nofeat"))) (.ret (.bl B false))).ev [r, .fr .hnd, t, x3, .fr (cat (ens ws)), x5, x6, x7, x8, x9, x10, x11, x12, x13, x14] s = .exc "UnknownFeature" [] [r, .fr .hnd, t, x3, .fr (cat (ens ws)), x5, x6, x7, x8, x9, x10, x11, x12, x13, x14] s := by
    show ((((XE.ix [("Catalog", g_Catalog__getitem__ B)] (.var B 4) (.str B "nofeat")).ev [r, .fr .hnd, t, x3, .fr (cat (ens ws)), x5, x6, x7, x8, x9, x10, x11, x12, x13, x14] s)).out _ _).bind _ = _
    rw [e0]
    exact rfl
  show (match (XS.seq (.drop (.ix [("Catalog", g_Catalog__getitem__ B)] (.var B 4) (.str B "nofeat"))) (.ret (.bl B false))).ev [r, .fr .hnd, t, x3, .fr (cat (ens ws)), x5, x6, x7, x8, x9, x10, x11, x12, x13, x14] s with
    | .exc c' fs Γ' s' => if c' = ("UnknownFeature" : Str) then (match (XS.set 5 (XE.int B 0)).ev Γ' s' with
      | .exc _ _ _ _ => Out.stuck
      | o => o) else .stuck
    | o => o) = _
  rw [e1]
  exact if_pos rfl
theorem turn_ok {x y} (hs : s.cells.length ≤ 63) : ∃ y3 y4 y5 y6 y7 y8 y9 y10 y11 y12 s', (turn B x y).ev [r, .fr .hnd, t, x3, x4, x5, x6, x7, x8, x9, x10, x11, x12, x13, x14] s = .nxt [r, .fr .hnd, t, y3, y4, y5, y6, y7, y8, y9, y10, y11, y12, x13, x14] s' ∧ s'.cells.length = s.cells.length := by
  obtain ⟨ws, u1, e0, h, c0⟩ := K1.s0 (B := B) (s := s) (r := r) (t := t) (x3 := x3) (x4 := x4) (x5 := x5) (x6 := x6) (x7 := x7) (x8 := x8) (x9 := x9) (x10 := x10) (x11 := x11) (x12 := x12) (x13 := x13) (x14 := x14) hs
  obtain ⟨p, u2, e1, hp, c1⟩ := K1.s1 (B := B) (s := u1) (r := r) (t := t) (x4 := x4) (x5 := x5) (x6 := x6) (x7 := x7) (x8 := x8) (x9 := x9) (x10 := x10) (x11 := x11) (x12 := x12) (x13 := x13) (x14 := x14) h (by rw [c0]; exact hs)
  have hp' : p ≤ (rows ws).length := by rw [rows_ens, List.length_map]; exact hp
  obtain ⟨b, u3, hb, c2, e6⟩ := K1.s6 (B := B) (s := u2) (r := r) (t := t) (x7 := x7) (x8 := x8) (x9 := x9) (x10 := x10) (x11 := x11) (x12 := x12) (x13 := x13) (x14 := x14) (c := cat (ens ws)) h hp' (by rw [c1, c0]; exact hs)
  obtain ⟨y11, y12, e13⟩ := K1.s13 (B := B) (s := u3) (r := r) (t := t) (x5 := .fr (.int (p : Nat))) (x6 := .fr (.lst (bads ++ [lb p]))) (x7 := .fr (wrong ws p b)) (x8 := .fr more) (x9 := .fr (.lst [.int 0, .int 6, .int 6])) (x10 := .fr (due ws)) (x11 := x11) (x12 := x12) (x13 := x13) (x14 := x14) h
  refine ⟨.fr (fD ws), .fr (cat (ens ws)), .fr (.int 0), .fr (.lst (bads ++ [lb p])), .fr (wrong ws p b), .fr more, .fr (.lst [.int 0, .int 6, .int 6]), .fr (due ws), y11, y12, u3, ?_, by rw [c2, c1, c0]⟩
  unfold turn
  refine (ev_seq e0).trans ?_
  refine (ev_seq e1).trans ?_
  refine (ev_seq K1.s2).trans ?_
  refine (ev_seq K1.s3).trans ?_
  refine (ev_seq K1.s4).trans ?_
  refine (ev_seq (K1.s5 h)).trans ?_
  refine (ev_seq e6).trans ?_
  refine (ev_seq (K1.s7 h hp' hb)).trans ?_
  refine (ev_seq K1.s8).trans ?_
  refine (ev_seq K1.s9).trans ?_
  refine (ev_seq K1.s10).trans ?_
  refine (ev_seq (K1.s11 h)).trans ?_
  refine (ev_seq (K1.s12 h)).trans ?_
  refine (ev_seq e13).trans ?_
  refine (ev_seq (K1.s14 h)).trans ?_
  exact K1.s15 h
theorem turns_ok {x y} : ∀ (ds : List D) (t x3 x4 x5 x6 x7 x8 x9 x10 x11 x12 : Sl) (s : HS), s.cells.length ≤ 63 → ∃ z y3 y4 y5 y6 y7 y8 y9 y10 y11 y12 s', forL (XG.name B 2) (turn B x y).ev ds [r, .fr .hnd, t, x3, x4, x5, x6, x7, x8, x9, x10, x11, x12, x13, x14] s = .nxt [r, .fr .hnd, z, y3, y4, y5, y6, y7, y8, y9, y10, y11, y12, x13, x14] s'
  | [], t, x3, x4, x5, x6, x7, x8, x9, x10, x11, x12, s, _ => ⟨t, x3, x4, x5, x6, x7, x8, x9, x10, x11, x12, s, rfl⟩
  | d :: ds, t, x3, x4, x5, x6, x7, x8, x9, x10, x11, x12, s, hs => by
    obtain ⟨y3, y4, y5, y6, y7, y8, y9, y10, y11, y12, s', e, c⟩ := turn_ok (B := B) (x := x) (y := y) (r := r) (t := .fr d) (x3 := x3) (x4 := x4) (x5 := x5) (x6 := x6) (x7 := x7) (x8 := x8) (x9 := x9) (x10 := x10) (x11 := x11) (x12 := x12) (x13 := x13) (x14 := x14) hs
    obtain ⟨z, z3, z4, z5, z6, z7, z8, z9, z10, z11, z12, s2, e2⟩ := turns_ok ds (.fr d) y3 y4 y5 y6 y7 y8 y9 y10 y11 y12 s' (by rw [c]; exact hs)
    exact ⟨z, z3, z4, z5, z6, z7, z8, z9, z10, z11, z12, s2, (for_cons (l := [(2, d)]) rfl e).trans e2⟩
end
theorem hev (B : Bs) (x_InvalidCatalog : PySem.W.exmOne B.K (.ref (B.ca "InvalidCatalog")) (.ref (B.ca "InvalidCatalog")) = some true) (x_UnknownFeature : PySem.W.exmOne B.K (.ref (B.ca "UnknownFeature")) (.ref (B.ca "UnknownFeature")) = some true) (ns : List Int) (hn : ns.length ≤ 63) : ∃ s, (p_law B x_InvalidCatalog x_UnknownFeature).ev ((Sl.fr (.rol ns) :: List.replicate 14 Sl.no).set 1 (.fr .hnd)) ⟨mixF ns 1, ns, 0⟩ = .ret (.bl true) s := by
  obtain ⟨z, z3, z4, z5, z6, z7, z8, z9, z10, z11, z12, s2, e⟩ := turns_ok (B := B) (x := x_InvalidCatalog) (y := x_UnknownFeature) (r := .fr (.rol ns)) (x13 := .no) (x14 := .no) (rangeD 0 5) .no .no .no .no .no .no .no .no .no .no .no ⟨mixF ns 1, ns, 0⟩ hn
  refine ⟨s2, ?_⟩
  rw [law_eq]
  have e1 : (XS.for (.range1 (.int B 5)) (.name B 2) (turn B x_InvalidCatalog x_UnknownFeature)).ev [.fr (.rol ns), .fr .hnd, .no, .no, .no, .no, .no, .no, .no, .no, .no, .no, .no, .no, .no] ⟨mixF ns 1, ns, 0⟩ = .nxt [.fr (.rol ns), .fr .hnd, z, z3, z4, z5, z6, z7, z8, z9, z10, z11, z12, .no, .no] s2 := by
    rw [ev_for (ds := rangeD 0 5) (ev_range1 (k := 5) rfl (by decide))]
    exact e
  refine (ev_seq (a := XS.for (.range1 (.int B 5)) (.name B 2) (turn B x_InvalidCatalog x_UnknownFeature)) e1).trans ?_
  exact rfl
end K1

set_option Elab.async false
set_option linter.all false
set_option maxRecDepth 100000
namespace K1
open PySem PySem.Spec PyProof.Rows L2 Evl Dv
theorem walk {l : PySem.W.OpenLaw} {q : Program} {loose : List Str} {XP : (Str → Option Value) → Heap → Prop} {YP : World → Heap → Prop} {d : DefRec} {K : Params → PySem.W.Frag} (hn : l.most = some 63) (hdf : d.params.defaults = [])
    (hY : ∀ (w : World) (h : Heap), YP w h → (K w.params).In h)
    (F : ∀ (w : World) (mg : Str → Option Value) (fa : Addr) (h : Heap), (K w.params).In h → h.Ns mainGlobals mg → mg d.name = some (.ref fa) →
      ∃ fd : FuncData, (∀ (s : Shared) (u : Value), BindsTo s fd ⟨[u], []⟩ [("_law_script", u)]) ∧ ∀ base : Heap, (K w.params).In base → base.Ns mainGlobals mg → FnOk l.prog w (K w.params) mg base (L2.CX l.prog w) 12 fa fd ["_law_script"] (spLaw (K w.params))) :
    PySem.W.WalkO q loose XP YP l.row.toRowW d [] (fun f vs => PySem.call f vs) :=
  L2.walk_of (n := 63) (k := 12) (x := "_law_script") (CX := fun w => L2.CX l.prog w) (sp := fun w => spLaw (K w.params)) hn (by decide) hdf ⟨rfl, by decide, by decide⟩ hY F (fun _ _ a ns hl _ hS => ⟨a, ns, rfl, hS, hl, fun _ => rfl⟩) fun _ _ _ _ _ z => CXnever z
end K1
open PySem PySem.W PyProof.Rows
set_option maxRecDepth 100000 in
set_option maxHeartbeats 0 in
theorem PySem.Challenge.cw_lostdesk_k01_catalogs_refused_holds : PySem.Challenge.rw_lostdesk_k01_catalogs_refused.Holds := by
  w_on; o_law; k_head; (case hw => w_witness2)
  k_fill
  refine K1.walk (l := PySem.Challenge.rw_lostdesk_k01_catalogs_refused) rfl rfl (fun w h Y => PySem.W.kIn_of Y) ?F
  case F =>
    intro w mg fa h KX G hmg
    refine' K1.all_mk K1.hev KX G hmg ?y_Catalog ?y_InvalidCatalog ?y_UnknownFeature ?y_is_word ?l_is_word ?c_is_word ?kp_is_word ?y_ascends ?l_ascends ?c_ascends ?kp_ascends ?y_is_feature ?l_is_feature ?c_is_feature ?kp_is_feature ?y__law_mix ?l__law_mix ?c__law_mix ?kp__law_mix ?y__law_next ?l__law_next ?c__law_next ?kp__law_next ?y__law_alike ?l__law_alike ?c__law_alike ?kp__law_alike ?y__law_features ?l__law_features ?c__law_features ?kp__law_features ?y__law_index ?l__law_index ?c__law_index ?kp__law_index ?y_law ?l_law ?c_law ?kp_law ?y_Catalog__init__ ?l_Catalog__init__ ?c_Catalog__init__ ?kp_Catalog__init__ ?f_Catalog__init__ ?fi_Catalog__init__ ?y_Catalog__contains__ ?l_Catalog__contains__ ?c_Catalog__contains__ ?kp_Catalog__contains__ ?f_Catalog__contains__ ?fi_Catalog__contains__ ?y_Catalog__len__ ?l_Catalog__len__ ?c_Catalog__len__ ?kp_Catalog__len__ ?f_Catalog__len__ ?fi_Catalog__len__ ?y_Catalog__eq__ ?l_Catalog__eq__ ?c_Catalog__eq__ ?kp_Catalog__eq__ ?f_Catalog__eq__ ?fi_Catalog__eq__ ?y_Catalog__getitem__ ?l_Catalog__getitem__ ?c_Catalog__getitem__ ?kp_Catalog__getitem__ ?f_Catalog__getitem__ ?fi_Catalog__getitem__ ?p1_features ?p2_features ?p3_features ?p4_features ?l_Catalog_features ?c_Catalog_features ?kp_Catalog_features ?p1_names ?p2_names ?p3_names ?p4_names ?l_Catalog_names ?c_Catalog_names ?kp_Catalog_names ?y_InvalidCatalog__init__ ?l_InvalidCatalog__init__ ?c_InvalidCatalog__init__ ?kp_InvalidCatalog__init__ ?f_InvalidCatalog__init__ ?pg ?hd ?po ?sa ?mk ?kc ?n1 ?n2 ?ne ?mo ?ha ?hn ?htk ?ic1 ?ty1 ?xc ?xr ?xs ?xe ?xt ?xk ?xg ?xq ?xd ?xi ?ic2 ?sb2 ?ux ?uk ?us ?ut ?ic3 ?sb3 ?z_all ?z_bool ?z_dict ?z_enumerate ?z_int ?z_isinstance ?z_len ?z_list ?z_max ?z_range ?z_str ?z_tuple ?z_zip ?v_MOST_FEATURES ?v_FEWEST_VALUES ?v_MOST_VALUES ?v_MOST_LETTERS
    (case y_Catalog => k_is)
    (case y_InvalidCatalog => k_is)
    (case y_UnknownFeature => k_is)
    (case y_is_word => k_is)
    (case l_is_word => k_is)
    (case c_is_word => k_is)
    (case kp_is_word => k_is)
    (case y_ascends => k_is)
    (case l_ascends => k_is)
    (case c_ascends => k_is)
    (case kp_ascends => k_is)
    (case y_is_feature => k_is)
    (case l_is_feature => k_is)
    (case c_is_feature => k_is)
    (case kp_is_feature => k_is)
    (case y__law_mix => k_is)
    (case l__law_mix => k_is)
    (case c__law_mix => k_is)
    (case kp__law_mix => k_is)
    (case y__law_next => k_is)
    (case l__law_next => k_is)
    (case c__law_next => k_is)
    (case kp__law_next => k_is)
    (case y__law_alike => k_is)
    (case l__law_alike => k_is)
    (case c__law_alike => k_is)
    (case kp__law_alike => k_is)
    (case y__law_features => k_is)
    (case l__law_features => k_is)
    (case c__law_features => k_is)
    (case kp__law_features => k_is)
    (case y__law_index => k_is)
    (case l__law_index => k_is)
    (case c__law_index => k_is)
    (case kp__law_index => k_is)
    (case y_law => k_is)
    (case l_law => k_is)
    (case c_law => k_is)
    (case kp_law => k_is)
    (case y_Catalog__init__ => k_is)
    (case l_Catalog__init__ => k_is)
    (case c_Catalog__init__ => k_is)
    (case kp_Catalog__init__ => k_is)
    (case f_Catalog__init__ => k_is)
    (case fi_Catalog__init__ => k_is)
    (case y_Catalog__contains__ => k_is)
    (case l_Catalog__contains__ => k_is)
    (case c_Catalog__contains__ => k_is)
    (case kp_Catalog__contains__ => k_is)
    (case f_Catalog__contains__ => k_is)
    (case fi_Catalog__contains__ => k_is)
    (case y_Catalog__len__ => k_is)
    (case l_Catalog__len__ => k_is)
    (case c_Catalog__len__ => k_is)
    (case kp_Catalog__len__ => k_is)
    (case f_Catalog__len__ => k_is)
    (case fi_Catalog__len__ => k_is)
    (case y_Catalog__eq__ => k_is)
    (case l_Catalog__eq__ => k_is)
    (case c_Catalog__eq__ => k_is)
    (case kp_Catalog__eq__ => k_is)
    (case f_Catalog__eq__ => k_is)
    (case fi_Catalog__eq__ => k_is)
    (case y_Catalog__getitem__ => k_is)
    (case l_Catalog__getitem__ => k_is)
    (case c_Catalog__getitem__ => k_is)
    (case kp_Catalog__getitem__ => k_is)
    (case f_Catalog__getitem__ => k_is)
    (case fi_Catalog__getitem__ => k_is)
    (case p1_features => k_is)
    (case p2_features => k_is)
    (case p3_features => k_is)
    (case p4_features => k_is)
    (case l_Catalog_features => k_is)
    (case c_Catalog_features => k_is)
    (case kp_Catalog_features => k_is)
    (case p1_names => k_is)
    (case p2_names => k_is)
    (case p3_names => k_is)
    (case p4_names => k_is)
    (case l_Catalog_names => k_is)
    (case c_Catalog_names => k_is)
    (case kp_Catalog_names => k_is)
    (case y_InvalidCatalog__init__ => k_is)
    (case l_InvalidCatalog__init__ => k_is)
    (case c_InvalidCatalog__init__ => k_is)
    (case kp_InvalidCatalog__init__ => k_is)
    (case f_InvalidCatalog__init__ => k_is)
    (case pg => k_is)
    (case hd => k_is)
    (case po => k_is)
    (case sa => k_is)
    (case mk => k_is)
    (case kc => k_is)
    (case n1 => k_is)
    (case n2 => k_is)
    (case ne => k_is)
    (case mo => k_is)
    (case ha => k_is)
    (case hn => k_is)
    (case htk => k_is)
    (case ic1 => first | rfl | k_is)
    (case ty1 => k_is)
    (case xc => k_is)
    (case xr => first | rfl | decide +kernel)
    (case xs => k_is)
    (case xe => k_is)
    (case xt => k_is)
    (case xk => k_is)
    (case xg => k_is)
    (case xq => k_is)
    (case xd => k_is)
    (case xi => k_is)
    (case ic2 => first | rfl | k_is)
    (case sb2 => first | rfl | k_is)
    (case ux => k_exc)
    (case uk => k_is)
    (case us => k_is)
    (case ut => k_is)
    (case ic3 => first | rfl | k_is)
    (case sb3 => first | rfl | k_is)
    (case z_all => k_is)
    (case z_bool => k_is)
    (case z_dict => k_is)
    (case z_enumerate => k_is)
    (case z_int => k_is)
    (case z_isinstance => k_is)
    (case z_len => k_is)
    (case z_list => k_is)
    (case z_max => k_is)
    (case z_range => k_is)
    (case z_str => k_is)
    (case z_tuple => k_is)
    (case z_zip => k_is)
    (case v_MOST_FEATURES => k_is)
    (case v_FEWEST_VALUES => k_is)
    (case v_MOST_VALUES => k_is)
    (case v_MOST_LETTERS => k_is)

