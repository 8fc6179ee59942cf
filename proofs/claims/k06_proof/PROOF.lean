import PyProof.Rows.All
import Wide.All
import OpenK.AllK
import Wide.FinOn
import HandS.ForMost
import HandS.Exc
import HandS.ExcOwn
import HandS.TryOnly
import HandS.WordsExc
import HandS.Evl
import HandS.TupAny
import HandS.Steps
import HandS.Property
import HandS.RaiseMore
import HandS.ExcInit
import HandS.ExcField
import HandS.More
import KE.GoesEnum
import HandS.Zip
import HandS.Conv
import KE.KDictPairs
import HandS.IsInst
import HandS.Codes
import HandS.FStr
import HandS.DictComp
import HandS.Style
import HandS.Defaults
import PySem.Challenge.RW_lostdesk_k06_candidates_and_rivals
set_option Elab.async false
set_option linter.all false
set_option maxRecDepth 100000
/-! # Values as plain data, and what a reading makes of them -/
namespace Dv
open PySem L2 Evl

/-- a value of the program as plain data -/
inductive D where
  | non | bl (b : Bool) | int (i : Int) | str (x : Str)
  | lst (xs : List D) | tup (pl : Bool) (xs : List D) | dic (pl : Bool) (kvs : List (Key × D)) | ins (c : Str) (fs : List (Str × D)) | hnd
  /-- the script: a list of ints that is only read -/
  | rol (ns : List Int)

/-- what is fixed: the written part, and where each class stands -/
structure Bs where
  K : PySem.W.Frag
  ca : Str → Addr

/-- the source of draws: its list's address, its cells' address -/
abbrev Wd := Option (Addr × Addr)

/-- a tuple whose object has no dict of its own -/
def PlT (F : Hp) (p : Addr) (ys : List V) : Prop := ∃ o : Obj, F p = some (.frz o (.tup ys)) ∧ o.dict = none
mutual
def Rep (B : Bs) (w : Wd) (F : Hp) : D → V → Prop
  | .non, v => v = .non
  | .bl b, v => v = .bl b
  | .int i, v => v = .int i
  | .str x, v => v = .str x
  | .lst ds, v => ∃ p xs, v = .ref p ∧ F p = some (.lst xs) ∧ Reps B w F ds xs
  | .rol ns, v => ∃ p, v = .ref p ∧ SqL B.K F p (ns.map V.int)
  | .tup pl ds, v => ∃ p xs, v = .ref p ∧ SqT B.K F p xs ∧ Reps B w F ds xs ∧ (pl = true → PlT F p xs)
  | .dic pl kvs, v => ∃ p xs, v = .ref p ∧ Rd F p (.dK xs) ∧ RepK B w F kvs xs ∧ (pl = true → ∃ o, F p = some (.frz o (.dK xs)))
  | .ins c fs, v => ∃ p dx xs, v = .ref p ∧ F p = some (.ins (B.ca c) dx xs) ∧ RepF B w F fs xs
  | .hnd, v => ∃ ha ca, w = some (ha, ca) ∧ v = .ref ha
def Reps (B : Bs) (w : Wd) (F : Hp) : List D → List V → Prop
  | [], vs => vs = []
  | d :: ds, vs => ∃ v r, vs = v :: r ∧ Rep B w F d v ∧ Reps B w F ds r
def RepK (B : Bs) (w : Wd) (F : Hp) : List (Key × D) → List (Key × V) → Prop
  | [], vs => vs = []
  | (k, d) :: ds, vs => ∃ v r, vs = (k, v) :: r ∧ Rep B w F d v ∧ RepK B w F ds r
def RepF (B : Bs) (w : Wd) (F : Hp) : List (Str × D) → List (Str × V) → Prop
  | [], vs => vs = []
  | (k, d) :: ds, vs => ∃ v r, vs = (k, v) :: r ∧ Rep B w F d v ∧ RepF B w F ds r
end

section
variable {B : Bs} {w : Wd} {F F' : Hp}
mutual
theorem Rep.mono (e : Ex F F') : ∀ {d : D} {v : V}, Rep B w F d v → Rep B w F' d v
  | .non, _, h => by unfold Rep at h ⊢; exact h
  | .bl _, _, h => by unfold Rep at h ⊢; exact h
  | .int _, _, h => by unfold Rep at h ⊢; exact h
  | .str _, _, h => by unfold Rep at h ⊢; exact h
  | .lst ds, _, h => by
    unfold Rep at h ⊢
    obtain ⟨p, xs, e1, e2, e3⟩ := h
    exact ⟨p, xs, e1, e _ _ e2, Reps.mono e e3⟩
  | .rol ns, _, h => by
    unfold Rep at h ⊢
    obtain ⟨p, e1, e2⟩ := h
    exact ⟨p, e1, ex_l e e2⟩
  | .tup pl ds, _, h => by
    unfold Rep at h ⊢
    obtain ⟨p, xs, e1, e2, e3, e4⟩ := h
    exact ⟨p, xs, e1, ex_t e e2, Reps.mono e e3, fun q => let ⟨o, h1, h2⟩ := e4 q; ⟨o, e _ _ h1, h2⟩⟩
  | .dic pl kvs, _, h => by
    unfold Rep at h ⊢
    obtain ⟨p, xs, e1, e2, e3, e4⟩ := h
    exact ⟨p, xs, e1, ex_rd e e2, RepK.mono e e3, fun q => let ⟨o, h1⟩ := e4 q; ⟨o, e _ _ h1⟩⟩
  | .ins c fs, _, h => by
    unfold Rep at h ⊢
    obtain ⟨p, dx, xs, e1, e2, e3⟩ := h
    exact ⟨p, dx, xs, e1, e _ _ e2, RepF.mono e e3⟩
  | .hnd, _, h => by unfold Rep at h ⊢; exact h
theorem Reps.mono (e : Ex F F') : ∀ {ds : List D} {vs : List V}, Reps B w F ds vs → Reps B w F' ds vs
  | [], _, h => by unfold Reps at h ⊢; exact h
  | d :: ds, _, h => by
    unfold Reps at h ⊢
    obtain ⟨v, r, e1, e2, e3⟩ := h
    exact ⟨v, r, e1, Rep.mono e e2, Reps.mono e e3⟩
theorem RepK.mono (e : Ex F F') : ∀ {ds : List (Key × D)} {vs : List (Key × V)}, RepK B w F ds vs → RepK B w F' ds vs
  | [], _, h => by unfold RepK at h ⊢; exact h
  | (k, d) :: ds, _, h => by
    unfold RepK at h ⊢
    obtain ⟨v, r, e1, e2, e3⟩ := h
    exact ⟨v, r, e1, Rep.mono e e2, RepK.mono e e3⟩
theorem RepF.mono (e : Ex F F') : ∀ {ds : List (Str × D)} {vs : List (Str × V)}, RepF B w F ds vs → RepF B w F' ds vs
  | [], _, h => by unfold RepF at h ⊢; exact h
  | (k, d) :: ds, _, h => by
    unfold RepF at h ⊢
    obtain ⟨v, r, e1, e2, e3⟩ := h
    exact ⟨v, r, e1, Rep.mono e e2, RepF.mono e e3⟩
end

theorem rep_non {v : V} : Rep B w F .non v ↔ v = .non := by unfold Rep; exact Iff.rfl
theorem rep_bl {b : Bool} {v : V} : Rep B w F (.bl b) v ↔ v = .bl b := by unfold Rep; exact Iff.rfl
theorem rep_int {i : Int} {v : V} : Rep B w F (.int i) v ↔ v = .int i := by unfold Rep; exact Iff.rfl
theorem rep_str {x : Str} {v : V} : Rep B w F (.str x) v ↔ v = .str x := by unfold Rep; exact Iff.rfl
theorem rep_lst {ds : List D} {v : V} : Rep B w F (.lst ds) v ↔ ∃ p xs, v = .ref p ∧ F p = some (.lst xs) ∧ Reps B w F ds xs := by unfold Rep; exact Iff.rfl
theorem rep_rol {ns : List Int} {v : V} : Rep B w F (.rol ns) v ↔ ∃ p, v = .ref p ∧ SqL B.K F p (ns.map V.int) := by unfold Rep; exact Iff.rfl
theorem rep_tupE {pl : Bool} {ds : List D} {v : V} (h : Rep B w F (.tup pl ds) v) : ∃ p xs, v = .ref p ∧ SqT B.K F p xs ∧ Reps B w F ds xs := by
  unfold Rep at h
  obtain ⟨p, xs, e1, e2, e3, _⟩ := h
  exact ⟨p, xs, e1, e2, e3⟩
theorem rep_tupP {ds : List D} {v : V} (h : Rep B w F (.tup true ds) v) : ∃ p xs, v = .ref p ∧ SqT B.K F p xs ∧ Reps B w F ds xs ∧ PlT F p xs := by
  unfold Rep at h
  obtain ⟨p, xs, e1, e2, e3, e4⟩ := h
  exact ⟨p, xs, e1, e2, e3, e4 rfl⟩
theorem rep_tup {ds : List D} {v : V} : Rep B w F (.tup false ds) v ↔ ∃ p xs, v = .ref p ∧ SqT B.K F p xs ∧ Reps B w F ds xs := by
  constructor
  · exact rep_tupE
  · rintro ⟨p, xs, e1, e2, e3⟩
    unfold Rep
    exact ⟨p, xs, e1, e2, e3, fun q => nomatch q⟩
theorem rep_tupN {pl : Bool} {ds : List D} {p : Addr} {o : Obj} {ys : List V} (h1 : F p = some (.frz o (.tup ys))) (h2 : o.dict = none) (h3 : Reps B w F ds ys) : Rep B w F (.tup pl ds) (.ref p) := by
  unfold Rep
  exact ⟨p, ys, rfl, .inl (.inr ⟨o, h1⟩), h3, fun _ => ⟨o, h1, h2⟩⟩
theorem rep_dicE {pl : Bool} {ds : List (Key × D)} {v : V} (h : Rep B w F (.dic pl ds) v) : ∃ p xs, v = .ref p ∧ Rd F p (.dK xs) ∧ RepK B w F ds xs := by
  unfold Rep at h
  obtain ⟨p, xs, e1, e2, e3, _⟩ := h
  exact ⟨p, xs, e1, e2, e3⟩
/-- one that can be walked -/
theorem rep_dicP {ds : List (Key × D)} {v : V} (h : Rep B w F (.dic true ds) v) : ∃ p xs o, v = .ref p ∧ F p = some (.frz o (.dK xs)) ∧ RepK B w F ds xs := by
  unfold Rep at h
  obtain ⟨p, xs, e1, e2, e3, e4⟩ := h
  obtain ⟨o, e5⟩ := e4 rfl
  exact ⟨p, xs, o, e1, e5, e3⟩
theorem rep_dic {ds : List (Key × D)} {v : V} : Rep B w F (.dic false ds) v ↔ ∃ p xs, v = .ref p ∧ Rd F p (.dK xs) ∧ RepK B w F ds xs := by
  constructor
  · exact rep_dicE
  · rintro ⟨p, xs, e1, e2, e3⟩
    unfold Rep
    exact ⟨p, xs, e1, e2, e3, fun q => nomatch q⟩
theorem rep_dicL {pl : Bool} {ds : List (Key × D)} {p : Addr} {o : Obj} {xs : List (Key × V)} (h1 : F p = some (.frz o (.dK xs))) (h2 : RepK B w F ds xs) : Rep B w F (.dic pl ds) (.ref p) := by
  unfold Rep
  exact ⟨p, xs, rfl, .inr ⟨o, h1⟩, h2, fun _ => ⟨o, h1⟩⟩
theorem rep_ins {c : Str} {fs : List (Str × D)} {v : V} : Rep B w F (.ins c fs) v ↔ ∃ p dx xs, v = .ref p ∧ F p = some (.ins (B.ca c) dx xs) ∧ RepF B w F fs xs := by unfold Rep; exact Iff.rfl
theorem rep_hnd {v : V} : Rep B w F .hnd v ↔ ∃ ha ca, w = some (ha, ca) ∧ v = .ref ha := by unfold Rep; exact Iff.rfl
theorem reps_nil {vs : List V} : Reps B w F [] vs ↔ vs = [] := by unfold Reps; exact Iff.rfl
theorem reps_cons {d : D} {ds : List D} {vs : List V} : Reps B w F (d :: ds) vs ↔ ∃ v r, vs = v :: r ∧ Rep B w F d v ∧ Reps B w F ds r := by
  constructor
  · intro h; unfold Reps at h; exact h
  · intro h; unfold Reps; exact h
theorem repK_nil {vs : List (Key × V)} : RepK B w F [] vs ↔ vs = [] := by unfold RepK; exact Iff.rfl
theorem repK_cons {k : Key} {d : D} {ds : List (Key × D)} {vs : List (Key × V)} : RepK B w F ((k, d) :: ds) vs ↔ ∃ v r, vs = (k, v) :: r ∧ Rep B w F d v ∧ RepK B w F ds r := by
  constructor
  · intro h; unfold RepK at h; exact h
  · intro h; unfold RepK; exact h
theorem repF_nil {vs : List (Str × V)} : RepF B w F [] vs ↔ vs = [] := by unfold RepF; exact Iff.rfl
theorem repF_cons {k : Str} {d : D} {ds : List (Str × D)} {vs : List (Str × V)} : RepF B w F ((k, d) :: ds) vs ↔ ∃ v r, vs = (k, v) :: r ∧ Rep B w F d v ∧ RepF B w F ds r := by
  constructor
  · intro h; unfold RepF at h; exact h
  · intro h; unfold RepF; exact h
theorem Reps.length : ∀ {ds : List D} {vs : List V}, Reps B w F ds vs → vs.length = ds.length
  | [], _, h => by rw [reps_nil.mp h]; rfl
  | d :: ds, _, h => by
    obtain ⟨v, r, e, _, h2⟩ := reps_cons.mp h
    rw [e, List.length_cons, List.length_cons, h2.length]
theorem Reps.get : ∀ {ds : List D} {vs : List V} {i : Nat} {d : D}, Reps B w F ds vs → ds[i]? = some d → ∃ v, vs[i]? = some v ∧ Rep B w F d v
  | [], _, _, _, _, h => by simp at h
  | d :: ds, _, 0, d', h, e => by
    obtain ⟨v, r, e1, h1, _⟩ := reps_cons.mp h
    simp at e
    subst e e1
    exact ⟨v, rfl, h1⟩
  | d :: ds, _, i + 1, d', h, e => by
    obtain ⟨v, r, e1, _, h2⟩ := reps_cons.mp h
    obtain ⟨u, h3, h4⟩ := h2.get (i := i) (d := d') (by simpa using e)
    subst e1
    exact ⟨u, by simpa using h3, h4⟩
theorem Reps.getV {ds : List D} {vs : List V} {i : Nat} {v : V} (h : Reps B w F ds vs) (e : vs[i]? = some v) : ∃ d, ds[i]? = some d ∧ Rep B w F d v := by
  have hl := h.length
  obtain ⟨hi, _⟩ := List.getElem?_eq_some_iff.mp e
  have hi2 : i < ds.length := by omega
  obtain ⟨u, h1, h2⟩ := h.get (List.getElem?_eq_getElem hi2)
  rw [e] at h1
  cases h1
  exact ⟨_, List.getElem?_eq_getElem hi2, h2⟩
theorem Reps.append : ∀ {ds es : List D} {vs us : List V}, Reps B w F ds vs → Reps B w F es us → Reps B w F (ds ++ es) (vs ++ us)
  | [], _, _, _, h, g => by rw [reps_nil.mp h]; exact g
  | d :: ds, es, _, us, h, g => by
    obtain ⟨v, r, e1, h1, h2⟩ := reps_cons.mp h
    subst e1
    exact reps_cons.mpr ⟨v, r ++ us, rfl, h1, h2.append g⟩
theorem Reps.snoc {ds : List D} {d : D} {vs : List V} {v : V} (h : Reps B w F ds vs) (g : Rep B w F d v) : Reps B w F (ds ++ [d]) (vs ++ [v]) :=
  h.append (reps_cons.mpr ⟨v, [], rfl, g, reps_nil.mpr rfl⟩)
theorem reps_ints : ∀ {ns : List Int}, Reps B w F (ns.map D.int) (ns.map V.int)
  | [] => reps_nil.mpr rfl
  | n :: ns => reps_cons.mpr ⟨.int n, _, rfl, rep_int.mpr rfl, reps_ints⟩
/-- the two lists by their items -/
theorem reps_of : ∀ {ds : List D} {vs : List V}, vs.length = ds.length → (∀ (i : Nat) (d : D) (v : V), ds[i]? = some d → vs[i]? = some v → Rep B w F d v) → Reps B w F ds vs
  | [], vs, hl, _ => reps_nil.mpr (List.eq_nil_of_length_eq_zero hl)
  | d :: ds, [], hl, _ => by simp at hl
  | d :: ds, v :: vs, hl, h => reps_cons.mpr ⟨v, vs, rfl, h 0 d v rfl rfl, reps_of (by simpa using hl) fun i d' v' h1 h2 => h (i + 1) d' v' (by simpa using h1) (by simpa using h2)⟩
end

/-! ### the state, and what a step leaves as it was -/
structure HS where
  st : Int
  cells : List Int
  ix : Int

def StAt (w : Wd) (s : HS) (F H : Hp) : Prop := match w with
  | none => True
  | some (ha, ca) => ha ≠ ca ∧ F ha = none ∧ F ca = none ∧ H ha = some (.lst [.int s.st, .ref ca, .int s.ix]) ∧ H ca = some (.lst (s.cells.map V.int))
def Off (w : Wd) (a : Addr) : Prop := match w with
  | none => True
  | some (ha, ca) => a ≠ ha ∧ a ≠ ca

structure Step (w : Wd) (F H F' H' : Hp) : Prop where
  ff : Ex F F'
  fh : Ex F' H'
  rest : ∀ a o, H a = some o → F a = none → Off w a → F' a = none ∧ H' a = some o

section
variable {w : Wd} {s s' : HS} {F H F1 H1 F2 H2 : Hp}
theorem Step.refl (e : Ex F H) : Step w F H F H := ⟨Ex.refl F, e, fun _ _ h1 h2 _ => ⟨h2, h1⟩⟩
theorem Step.trans (a : Step w F H F1 H1) (b : Step w F1 H1 F2 H2) : Step w F H F2 H2 :=
  ⟨a.ff.trans b.ff, b.fh, fun x o h1 h2 h3 => let ⟨h4, h5⟩ := a.rest x o h1 h2 h3; b.rest x o h5 h4 h3⟩
/-- a new object, frozen at once -/
theorem Step.new {p : Addr} {o : HO} (e : Ex F H) (hp : H p = none) : Step w F H (upd F p o) (upd H p o) := by
  have hf : F p = none := fresh_back e hp
  refine ⟨Ex.new hf, fun a u ha => ?_, fun a u h1 h2 _ => ?_⟩
  · by_cases ap : a = p
    · subst ap; rw [upd_same] at ha ⊢; exact ha
    · rw [upd_ne ap] at ha ⊢; exact e a u ha
  · have ap : a ≠ p := ne_of_none h1 hp
    rw [upd_ne ap, upd_ne ap]
    exact ⟨h2, h1⟩
/-- a new object that is not frozen -/
theorem Step.newO {p : Addr} {o : HO} (e : Ex F H) (hp : H p = none) : Step w F H F (upd H p o) := by
  refine ⟨Ex.refl F, fun a u ha => ?_, fun a u h1 h2 _ => ?_⟩
  · rw [upd_ne (ne_of_none (e a u ha) hp)]; exact e a u ha
  · have ap : a ≠ p := ne_of_none h1 hp
    rw [upd_ne ap]
    exact ⟨h2, h1⟩
theorem StAt.new {p : Addr} {o : HO} (h : StAt w s F H) (hp : H p = none) : StAt w s (upd F p o) (upd H p o) := by
  unfold StAt at h ⊢
  cases w with
  | none => trivial
  | some q =>
    obtain ⟨ha, ca⟩ := q
    obtain ⟨h1, h2, h3, h4, h5⟩ := h
    have n1 : ha ≠ p := ne_of_none h4 hp
    have n2 : ca ≠ p := ne_of_none h5 hp
    refine ⟨h1, ?_, ?_, ?_, ?_⟩
    · rw [upd_ne n1]; exact h2
    · rw [upd_ne n2]; exact h3
    · rw [upd_ne n1]; exact h4
    · rw [upd_ne n2]; exact h5
theorem StAt.newO {p : Addr} {o : HO} (h : StAt w s F H) (hp : H p = none) : StAt w s F (upd H p o) := by
  unfold StAt at h ⊢
  cases w with
  | none => trivial
  | some q =>
    obtain ⟨ha, ca⟩ := q
    obtain ⟨h1, h2, h3, h4, h5⟩ := h
    refine ⟨h1, h2, h3, ?_, ?_⟩
    · rw [upd_ne (ne_of_none h4 hp)]; exact h4
    · rw [upd_ne (ne_of_none h5 hp)]; exact h5
theorem Step.fresh (a : Step w F H F1 H1) (h0 : Ex F H) (st : StAt w s' F1 H1) {p : Addr} (hp : H1 p = none) : H p = none := by
  cases q : H p with
  | none => rfl
  | some o =>
    cases f : F p with
    | some u =>
      have := a.fh p u (a.ff p u f)
      rw [hp] at this; cases this
    | none =>
      by_cases ho : Off w p
      · rw [(a.rest p o q f ho).2] at hp; cases hp
      · unfold Off at ho
        unfold StAt at st
        cases w with
        | none => exact absurd trivial ho
        | some z =>
          obtain ⟨ha, ca⟩ := z
          obtain ⟨_, _, _, h4, h5⟩ := st
          by_cases e1 : p = ha
          · rw [e1, h4] at hp; cases hp
          · by_cases e2 : p = ca
            · rw [e2, h5] at hp; cases hp
            · exact absurd ⟨e1, e2⟩ ho
end

/-! ### slots -/
inductive Sl where
  | no | fr (d : D) | lo (ds : List D) | dco (kvs : List (Key × D)) | io (c : Str) (fs : List (Str × D))

def SlAt (B : Bs) (w : Wd) (F H : Hp) : Sl → Option V → Prop
  | .no, _ => True
  | .fr d, v => ∃ x, v = some x ∧ Rep B w F d x
  | .lo ds, v => ∃ p xs, v = some (.ref p) ∧ F p = none ∧ Off w p ∧ H p = some (.lst xs) ∧ Reps B w F ds xs
  | .dco kvs, v => ∃ p xs, v = some (.ref p) ∧ F p = none ∧ Off w p ∧ H p = some (.dK xs) ∧ RepK B w F kvs xs
  | .io c fs, v => ∃ p dx xs, v = some (.ref p) ∧ F p = none ∧ Off w p ∧ H p = some (.ins (B.ca c) dx xs) ∧ RepF B w F fs xs
def owned : Sl → Bool
  | .no => false
  | .fr _ => false
  | .lo _ => true
  | .dco _ => true
  | .io _ _ => true
theorem SlAt.step {B : Bs} {w : Wd} {F H F' H' : Hp} {t : Sl} {v : Option V} (h : SlAt B w F H t v) (a : Step w F H F' H') : SlAt B w F' H' t v := by
  cases t with
  | no => trivial
  | fr d => obtain ⟨x, e, r⟩ := h; exact ⟨x, e, r.mono a.ff⟩
  | lo ds =>
    obtain ⟨p, xs, e, h1, h2, h3, r⟩ := h
    obtain ⟨h4, h5⟩ := a.rest p _ h3 h1 h2
    exact ⟨p, xs, e, h4, h2, h5, r.mono a.ff⟩
  | dco ds =>
    obtain ⟨p, xs, e, h1, h2, h3, r⟩ := h
    obtain ⟨h4, h5⟩ := a.rest p _ h3 h1 h2
    exact ⟨p, xs, e, h4, h2, h5, r.mono a.ff⟩
  | io c fs =>
    obtain ⟨p, dx, xs, e, h1, h2, h3, r⟩ := h
    obtain ⟨h4, h5⟩ := a.rest p _ h3 h1 h2
    exact ⟨p, dx, xs, e, h4, h2, h5, r.mono a.ff⟩

abbrev Gm := List Sl
def SlsAt (B : Bs) (w : Wd) (F H : Hp) (Γ : Gm) (σ : L2.St) : Prop := ∀ (i : Nat) (t : Sl), Γ[i]? = some t → ∃ v, σ[i]? = some v ∧ SlAt B w F H t v
theorem SlsAt.step {B : Bs} {w : Wd} {F H F' H' : Hp} {Γ : Gm} {σ : L2.St} (h : SlsAt B w F H Γ σ) (a : Step w F H F' H') : SlsAt B w F' H' Γ σ := fun i t e =>
  let ⟨v, h1, h2⟩ := h i t e; ⟨v, h1, h2.step a⟩

/-! ### results -/
inductive Res where
  | ret (d : D) (s : HS) | exc (c : Str) (fs : List (Str × D)) (s : HS) | stuck
def Res.bind (r : Res) (k : D → HS → Res) : Res := match r with
  | .ret d s => k d s
  | .exc c fs s => .exc c fs s
  | .stuck => .stuck

/-- an exception's own dict: none for a class without fields -/
def ExAt (B : Bs) (w : Wd) (F : Hp) (fs : List (Str × D)) (od : Option Addr) : Prop := match fs with
  | [] => od = none
  | f :: fs => ∃ dd xs, od = some dd ∧ F dd = some (.xd xs) ∧ RepF B w F (f :: fs) xs
theorem ExAt.mono {B : Bs} {w : Wd} {F F' : Hp} {fs : List (Str × D)} {od : Option Addr} (e : Ex F F') (h : ExAt B w F fs od) : ExAt B w F' fs od := by
  cases fs with
  | nil => exact h
  | cons f fs => obtain ⟨dd, xs, h1, h2, h3⟩ := h; exact ⟨dd, xs, h1, e _ _ h2, h3.mono e⟩

/-- a reading ends as r says, and P holds then -/
def OkP (B : Bs) (w : Wd) (F H : Hp) (σ : L2.St) (Wx : WX) (P : D → V → Hp → Hp → Prop) (t : VK → Prop) (r : Res) : Prop := match r with
  | .ret d s' => ∀ Q : VK, (∀ v F' H', Step w F H F' H' → StAt w s' F' H' → P d v F' H' → Q v H') → t Q
  | .exc c fs s' => (∀ od F' H', Step w F H F' H' → StAt w s' F' H' → ExAt B w F' fs od → Wx (.ref (B.ca c)) od σ H') → ∀ Q : VK, t Q
  | .stuck => True
abbrev OkE (B : Bs) (w : Wd) (F H : Hp) (σ : L2.St) (Wx : WX) (t : VK → Prop) (r : Res) : Prop := OkP B w F H σ Wx (fun d v F' _ => Rep B w F' d v) t r
theorem OkP.seq {B : Bs} {w : Wd} {F H : Hp} {σ : L2.St} {Wx : WX} {P1 P2 : D → V → Hp → Hp → Prop} {ta : VK → Prop} {u : V → Hp → VK → Prop} {ra : Res} {k : D → HS → Res} (ha : OkP B w F H σ Wx P1 ta ra)
    (hu : ∀ d s1 v F1 H1, ra = .ret d s1 → Step w F H F1 H1 → StAt w s1 F1 H1 → P1 d v F1 H1 → OkP B w F1 H1 σ Wx P2 (u v H1) (k d s1)) :
    OkP B w F H σ Wx P2 (fun Q => ta (fun x H1 => u x H1 Q)) (ra.bind k) := by
  cases ra with
  | stuck => trivial
  | exc c fs s' => exact fun hx Q => ha hx _
  | ret d s1 =>
    show OkP B w F H σ Wx P2 (fun Q => ta (fun x H1 => u x H1 Q)) (k d s1)
    have hk := fun v F1 H1 a b c => hu d s1 v F1 H1 rfl a b c
    cases h2 : k d s1 with
    | stuck => trivial
    | exc c fs s2 =>
      intro hx Q
      refine ha _ fun v F1 H1 a b c => ?_
      have z := hk v F1 H1 a b c
      rw [h2] at z
      exact z (fun od F2 H2 a2 b2 c2 => hx od F2 H2 (a.trans a2) b2 c2) Q
    | ret d2 s2 =>
      intro Q q
      refine ha _ fun v F1 H1 a b c => ?_
      have z := hk v F1 H1 a b c
      rw [h2] at z
      exact z Q fun v2 F2 H2 a2 b2 c2 => q v2 F2 H2 (a.trans a2) b2 c2
theorem OkP.post {B : Bs} {w : Wd} {F H : Hp} {σ : L2.St} {Wx : WX} {P1 P2 : D → V → Hp → Hp → Prop} {t : VK → Prop} {r : Res} (h : OkP B w F H σ Wx P1 t r) (i : ∀ d v F' H', Step w F H F' H' → P1 d v F' H' → P2 d v F' H') : OkP B w F H σ Wx P2 t r := by
  cases r with
  | stuck => trivial
  | exc c fs s' => exact h
  | ret d s' => exact fun Q q => h Q fun v F' H' a b c => q v F' H' a b (i d v F' H' a c)
section
variable {B : Bs} {w : Wd} {F H : Hp} {σ : L2.St} {Wx : WX}
theorem OkE.seq {ta : VK → Prop} {u : V → Hp → VK → Prop} {ra : Res} {k : D → HS → Res} (ha : OkE B w F H σ Wx ta ra)
    (hu : ∀ d s1 v F1 H1, ra = .ret d s1 → Step w F H F1 H1 → StAt w s1 F1 H1 → Rep B w F1 d v → OkE B w F1 H1 σ Wx (u v H1) (k d s1)) :
    OkE B w F H σ Wx (fun Q => ta (fun x H1 => u x H1 Q)) (ra.bind k) := OkP.seq ha hu
theorem OkE.pure {s : HS} {d : D} {v : V} (e : Ex F H) (st : StAt w s F H) (r : Rep B w F d v) : OkE B w F H σ Wx (fun Q => Q v H) (.ret d s) := fun _ q => q v F H (Step.refl e) st r
theorem OkP.imp {P : D → V → Hp → Hp → Prop} {t t' : VK → Prop} {r : Res} (h : OkP B w F H σ Wx P t r) (i : ∀ Q, t Q → t' Q) : OkP B w F H σ Wx P t' r := by
  cases r with
  | stuck => trivial
  | exc c fs s' => exact fun hx Q => i Q (h hx Q)
  | ret d s' => exact fun Q q => i Q (h Q q)
theorem OkE.imp' {t t' : VK → Prop} {r r' : Res} (h : OkE B w F H σ Wx t r) (er : r = r') (i : ∀ Q, t Q → t' Q) : OkE B w F H σ Wx t' r' := by
  subst er
  cases r with
  | stuck => trivial
  | exc c fs s' => exact fun hx Q => i Q (h hx Q)
  | ret d s' => exact fun Q q => i Q (h Q q)
theorem OkE.imp {t t' : VK → Prop} {r : Res} (h : OkE B w F H σ Wx t r) (i : ∀ Q, t Q → t' Q) : OkE B w F H σ Wx t' r := by
  cases r with
  | stuck => trivial
  | exc c fs s' => exact fun hx Q => i Q (h hx Q)
  | ret d s' => exact fun Q q => i Q (h Q q)
end

/-! ### expressions -/
structure XE (B : Bs) where
  te : WX → TE
  ev : Gm → HS → Res
  ok : ∀ {w : Wd} {F H : Hp} {σ : L2.St} {Γ : Gm} {s : HS} (Wx : WX), Ex F H → StAt w s F H → SlsAt B w F H Γ σ → OkE B w F H σ Wx (te Wx σ H) (ev Γ s)
/-- several, from the left -/
def tas {B : Bs} (Wx : WX) : List (XE B) → TA
  | [] => tNil
  | p :: ps => tCons (p.te Wx) (tas Wx ps)
def evs {B : Bs} (Γ : Gm) : List (XE B) → HS → (List D → HS → Res) → Res
  | [], s, k => k [] s
  | p :: ps, s, k => (p.ev Γ s).bind fun d s1 => evs Γ ps s1 fun ds s2 => k (d :: ds) s2
theorem evs_okP {B : Bs} {w : Wd} {σ : L2.St} {Γ : Gm} (Wx : WX) {P : D → V → Hp → Hp → Prop} : ∀ (ps : List (XE B)) {F H : Hp} {s : HS} {k : List D → HS → Res} {u : List V → Hp → VK → Prop}, Ex F H → StAt w s F H → SlsAt B w F H Γ σ →
    (∀ ds s1 vs F1 H1, Step w F H F1 H1 → StAt w s1 F1 H1 → Reps B w F1 ds vs → ds.length = ps.length → OkP B w F1 H1 σ Wx P (u vs H1) (k ds s1)) → OkP B w F H σ Wx P (fun Q => tas Wx ps σ H (fun vs H1 => u vs H1 Q)) (evs Γ ps s k)
  | [], F, H, s, k, u, e, st, sl, hk => hk [] s [] F H (Step.refl e) st (reps_nil.mpr rfl) rfl
  | p :: ps, F, H, s, k, u, e, st, sl, hk => by
    refine OkP.seq (p.ok Wx e st sl) (u := fun x H1 Q => tas Wx ps σ H1 (fun xs H2 => u (x :: xs) H2 Q)) fun d s1 v F1 H1 _ a st1 r1 => ?_
    refine evs_okP Wx ps (u := fun xs H2 Q => u (v :: xs) H2 Q) a.fh st1 (sl.step a) fun ds s2 vs F2 H2 a2 st2 r2 hl => ?_
    exact hk (d :: ds) s2 (v :: vs) F2 H2 (a.trans a2) st2 (reps_cons.mpr ⟨v, vs, rfl, r1.mono a2.ff, r2⟩) (by simp [hl])
theorem evs_ok {B : Bs} {w : Wd} {σ : L2.St} {Γ : Gm} (Wx : WX) (ps : List (XE B)) {F H : Hp} {s : HS} {k : List D → HS → Res} {u : List V → Hp → VK → Prop} (e : Ex F H) (st : StAt w s F H) (sl : SlsAt B w F H Γ σ)
    (hk : ∀ ds s1 vs F1 H1, Step w F H F1 H1 → StAt w s1 F1 H1 → Reps B w F1 ds vs → ds.length = ps.length → OkE B w F1 H1 σ Wx (u vs H1) (k ds s1)) : OkE B w F H σ Wx (fun Q => tas Wx ps σ H (fun vs H1 => u vs H1 Q)) (evs Γ ps s k) := evs_okP Wx ps e st sl hk

def Sl.get : Option Sl → HS → Res
  | some (.fr d), s => .ret d s
  | _, _ => .stuck
/-- a name -/
def XE.var (B : Bs) (i : Nat) : XE B where
  te := fun _ => tVar i
  ev := fun Γ s => Sl.get Γ[i]? s
  ok := fun {w F H σ Γ s} Wx e st sl => by
    cases h : Γ[i]? with
    | none => trivial
    | some t =>
      cases t with
      | fr d =>
        obtain ⟨v, h1, x, h2, r⟩ := sl i _ h
        subst h2
        intro Q q
        exact ⟨x, h1, q x F H (Step.refl e) st r⟩
      | _ => trivial
/-- a value without objects -/
def XE.cst (B : Bs) (d : D) (v : V) (h : ∀ w F, Rep B w F d v) : XE B where
  te := fun _ => tC v
  ev := fun _ s => .ret d s
  ok := fun {w F H σ Γ s} Wx e st sl => OkE.pure e st (h w F)
abbrev XE.int (B : Bs) (i : Int) : XE B := .cst B (.int i) (.int i) fun _ _ => rep_int.mpr rfl
abbrev XE.bl (B : Bs) (b : Bool) : XE B := .cst B (.bl b) (.bl b) fun _ _ => rep_bl.mpr rfl
abbrev XE.str (B : Bs) (x : Str) : XE B := .cst B (.str x) (.str x) fun _ _ => rep_str.mpr rfl
abbrev XE.non (B : Bs) : XE B := .cst B .non .non fun _ _ => rep_non.mpr rfl

/-- operations by values: what becomes of the data where f tells it -/
abbrev Keeps (w : Wd) (F H F' H' : Hp) : Prop := ∀ s, StAt w s F H → StAt w s F' H'
def OkV (B : Bs) (w : Wd) (F H : Hp) (t : VK → Prop) (o : Option D) : Prop := ∀ z, o = some z → ∀ Q : VK, (∀ v F' H', Step w F H F' H' → Keeps w F H F' H' → Rep B w F' z v → Q v H') → t Q
structure O2 (B : Bs) where
  r : R2
  f : D → D → Option D
  ok : ∀ {w : Wd} {F H : Hp} {x y : V} {d e : D}, Ex F H → Rep B w F d x → Rep B w F e y → OkV B w F H (r x y H) (f d e)
structure O1 (B : Bs) where
  r : V → Hp → VK → Prop
  f : D → Option D
  ok : ∀ {w : Wd} {F H : Hp} {x : V} {d : D}, Ex F H → Rep B w F d x → OkV B w F H (r x H) (f d)
structure OC (B : Bs) where
  r : List V → Hp → VK → Prop
  f : List D → Option D
  ok : ∀ {w : Wd} {F H : Hp} {xs : List V} {ds : List D}, Ex F H → Reps B w F ds xs → OkV B w F H (r xs H) (f ds)
def Res.opt (o : Option D) (s : HS) : Res := match o with
  | some d => .ret d s
  | none => .stuck
theorem OkV.toE {B : Bs} {w : Wd} {F H : Hp} {σ : L2.St} {Wx : WX} {t : VK → Prop} {o : Option D} {s : HS} (st : StAt w s F H) (h : OkV B w F H t o) : OkE B w F H σ Wx t (Res.opt o s) := by
  cases o with
  | none => trivial
  | some z => exact fun Q q => h z rfl Q fun v F' H' a b c => q v F' H' a (b s st) c
theorem OkV.pure {B : Bs} {w : Wd} {F H : Hp} {d : D} {v : V} (e : Ex F H) (r : Rep B w F d v) : OkV B w F H (fun Q => Q v H) (some d) := fun z h Q q => by
  cases h
  exact q v F H (Step.refl e) (fun _ x => x) r
theorem OkV.imp {B : Bs} {w : Wd} {F H : Hp} {t t' : VK → Prop} {o : Option D} (h : OkV B w F H t o) (i : ∀ Q, t Q → t' Q) : OkV B w F H t' o := fun z e Q q => i Q (h z e Q q)
/-- a new object -/
theorem OkV.new {B : Bs} {w : Wd} {F H : Hp} {d : D} {o : HO} (e : Ex F H) (r : ∀ p, F p = none → Rep B w (upd F p o) d (.ref p)) : OkV B w F H (fun Q => ∀ p, H p = none → Q (.ref p) (upd H p o)) (some d) := fun z h Q q p hp => by
  cases h
  exact q (.ref p) (upd F p o) (upd H p o) (Step.new e hp) (fun s st => st.new hp) (r p (fresh_back e hp))
def O2.or {B : Bs} (a b : O2 B) : O2 B where
  r := fun x y H Q => a.r x y H Q ∨ b.r x y H Q
  f := fun d e => match a.f d e with
    | some z => some z
    | none => b.f d e
  ok := fun {w F H x y d e} h r1 r2 z hz Q q => by
    cases h1 : a.f d e with
    | some u => rw [h1] at hz; exact .inl (a.ok h r1 r2 z (by rw [h1]; exact hz) Q q)
    | none => rw [h1] at hz; exact .inr (b.ok h r1 r2 z hz Q q)
def O1.or {B : Bs} (a b : O1 B) : O1 B where
  r := fun x H Q => a.r x H Q ∨ b.r x H Q
  f := fun d => match a.f d with
    | some z => some z
    | none => b.f d
  ok := fun {w F H x d} h r1 z hz Q q => by
    cases h1 : a.f d with
    | some u => rw [h1] at hz; exact .inl (a.ok h r1 z (by rw [h1]; exact hz) Q q)
    | none => rw [h1] at hz; exact .inr (b.ok h r1 z hz Q q)
def OC.or {B : Bs} (a b : OC B) : OC B where
  r := fun x H Q => a.r x H Q ∨ b.r x H Q
  f := fun d => match a.f d with
    | some z => some z
    | none => b.f d
  ok := fun {w F H x d} h r1 z hz Q q => by
    cases h1 : a.f d with
    | some u => rw [h1] at hz; exact .inl (a.ok h r1 z (by rw [h1]; exact hz) Q q)
    | none => rw [h1] at hz; exact .inr (b.ok h r1 z hz Q q)
def XE.op2 {B : Bs} (o : O2 B) (a b : XE B) : XE B where
  te := fun Wx => tOp o.r (a.te Wx) (b.te Wx)
  ev := fun Γ s => (a.ev Γ s).bind fun d s1 => (b.ev Γ s1).bind fun e s2 => Res.opt (o.f d e) s2
  ok := fun {w F H σ Γ s} Wx e st sl => by
    refine (a.ok Wx e st sl).seq (u := fun x H1 Q => (b.te Wx) σ H1 fun y H2 => o.r x y H2 Q) fun d s1 v F1 H1 _ a1 st1 r1 => ?_
    refine (b.ok Wx a1.fh st1 (sl.step a1)).seq (u := fun y H2 Q => o.r v y H2 Q) fun d2 s2 v2 F2 H2 _ a2 st2 r2 => ?_
    exact (o.ok a2.fh (r1.mono a2.ff) r2).toE st2
/-- r1 (a, b) and r2 (b, c), each operand once -/
def XE.chain {B : Bs} (o o' : O2 B) (a b c : XE B) : XE B where
  te := fun Wx => tChain o.r o'.r (a.te Wx) (b.te Wx) (c.te Wx)
  ev := fun Γ s => (a.ev Γ s).bind fun d s1 => (b.ev Γ s1).bind fun e s2 => match o.f d e with
    | some (.bl true) => (c.ev Γ s2).bind fun g s3 => match o'.f e g with
      | some (.bl t) => .ret (.bl t) s3
      | _ => .stuck
    | some (.bl false) => .ret (.bl false) s2
    | _ => .stuck
  ok := fun {w F H σ Γ s} Wx e st sl => by
    refine (a.ok Wx e st sl).seq (u := fun x H1 Q => (b.te Wx) σ H1 fun y H2 => o.r x y H2 fun z H3 => ∃ k, z = .bl k ∧ (if k = true then (c.te Wx) σ H3 fun w' H4 => o'.r y w' H4 Q else Q (.bl false) H3)) fun d s1 v F1 H1 _ a1 st1 r1 => ?_
    refine (b.ok Wx a1.fh st1 (sl.step a1)).seq (u := fun y H2 Q => o.r v y H2 fun z H3 => ∃ k, z = .bl k ∧ (if k = true then (c.te Wx) σ H3 fun w' H4 => o'.r y w' H4 Q else Q (.bl false) H3)) fun e2 s2 v2 F2 H2 _ a2 st2 r2 => ?_
    have ho := o.ok a2.fh (r1.mono a2.ff) r2
    cases hf : o.f d e2 with
    | none => trivial
    | some z =>
      rw [hf] at ho
      have hz := (ho.toE (σ := σ) (Wx := Wx) st2)
      cases z with
      | bl k =>
        cases k with
        | true =>
          refine (hz.seq (u := fun z H3 Q => ∃ k, z = .bl k ∧ (if k = true then (c.te Wx) σ H3 fun w' H4 => o'.r v2 w' H4 Q else Q (.bl false) H3))
            (k := fun _ s2 => (c.ev Γ s2).bind fun g s3 => match o'.f e2 g with
              | some (.bl t) => .ret (.bl t) s3
              | _ => .stuck) fun d3 s3 v3 F3 H3 he a3 st3 r3 => ?_)
          cases he
          refine OkE.imp ?_ fun Q q => ⟨true, rep_bl.mp r3, (if_pos rfl).mpr q⟩
          refine (c.ok Wx a3.fh st3 (((sl.step a1).step a2).step a3)).seq (u := fun w' H4 Q => o'.r v2 w' H4 Q) fun g s4 v4 F4 H4 _ a4 st4 r4 => ?_
          have h5 := o'.ok a4.fh ((r2.mono a3.ff).mono a4.ff) r4
          cases hg : o'.f e2 g with
          | none => trivial
          | some y =>
            rw [hg] at h5
            cases y with
            | bl t => exact h5.toE st4
            | _ => trivial
        | false =>
          refine (hz.seq (u := fun z H3 Q => ∃ k, z = .bl k ∧ (if k = true then (c.te Wx) σ H3 fun w' H4 => o'.r v2 w' H4 Q else Q (.bl false) H3)) (k := fun _ s2 => .ret (.bl false) s2) fun d3 s3 v3 F3 H3 he a3 st3 r3 => ?_)
          cases he
          refine OkE.imp (OkE.pure a3.fh st3 (rep_bl.mpr rfl)) fun Q q => ⟨false, rep_bl.mp r3, ?_⟩
          rw [if_neg Bool.false_ne_true]
          exact q
      | _ => trivial

/-! ### tests -/
def OkT (B : Bs) (w : Wd) (F H : Hp) (σ : L2.St) (Wx : WX) (t : (Bool → Hp → Prop) → Prop) (r : Res) : Prop := match r with
  | .ret (.bl b) s' => ∀ Q : Bool → Hp → Prop, (∀ F' H', Step w F H F' H' → StAt w s' F' H' → Q b H') → t Q
  | .exc c fs s' => (∀ od F' H', Step w F H F' H' → StAt w s' F' H' → ExAt B w F' fs od → Wx (.ref (B.ca c)) od σ H') → ∀ Q, t Q
  | _ => True
structure XT (B : Bs) where
  tt : WX → TT
  ev : Gm → HS → Res
  ok : ∀ {w : Wd} {F H : Hp} {σ : L2.St} {Γ : Gm} {s : HS} (Wx : WX), Ex F H → StAt w s F H → SlsAt B w F H Γ σ → OkT B w F H σ Wx (tt Wx σ H) (ev Γ s)
def Res.tst (r : Res) : Res := match r with
  | .ret (.bl b) s => .ret (.bl b) s
  | .exc c fs s => .exc c fs s
  | _ => .stuck
def Res.bindB (r : Res) (k : Bool → HS → Res) : Res := match r with
  | .ret (.bl b) s => k b s
  | .exc c fs s => .exc c fs s
  | _ => .stuck
section
variable {B : Bs} {w : Wd} {F H : Hp} {σ : L2.St} {Wx : WX}
theorem OkT.seqE {t : (Bool → Hp → Prop) → Prop} {u : Bool → Hp → VK → Prop} {r : Res} {k : Bool → HS → Res} (h : OkT B w F H σ Wx t r)
    (hu : ∀ b s1 F1 H1, r = .ret (.bl b) s1 → Step w F H F1 H1 → StAt w s1 F1 H1 → OkE B w F1 H1 σ Wx (u b H1) (k b s1)) : OkE B w F H σ Wx (fun Q => t (fun b H1 => u b H1 Q)) (r.bindB k) := by
  cases r with
  | stuck => trivial
  | exc c fs s' => exact fun hx Q => h hx _
  | ret d s1 =>
    cases d with
    | bl b =>
      show OkE B w F H σ Wx (fun Q => t (fun b H1 => u b H1 Q)) (k b s1)
      have hk := fun F1 H1 a c => hu b s1 F1 H1 rfl a c
      cases h2 : k b s1 with
      | stuck => trivial
      | exc c fs s2 =>
        intro hx Q
        refine h _ fun F1 H1 a c => ?_
        have z := hk F1 H1 a c
        rw [h2] at z
        exact z (fun od F2 H2 a2 b2 c2 => hx od F2 H2 (a.trans a2) b2 c2) Q
      | ret d2 s2 =>
        intro Q q
        refine h _ fun F1 H1 a c => ?_
        have z := hk F1 H1 a c
        rw [h2] at z
        exact z Q fun v2 F2 H2 a2 b2 c2 => q v2 F2 H2 (a.trans a2) b2 c2
    | _ => trivial
theorem OkT.seqT {t : (Bool → Hp → Prop) → Prop} {u : Bool → Hp → (Bool → Hp → Prop) → Prop} {r : Res} {k : Bool → HS → Res} (h : OkT B w F H σ Wx t r)
    (hu : ∀ b s1 F1 H1, r = .ret (.bl b) s1 → Step w F H F1 H1 → StAt w s1 F1 H1 → OkT B w F1 H1 σ Wx (u b H1) (k b s1)) : OkT B w F H σ Wx (fun Q => t (fun b H1 => u b H1 Q)) (r.bindB k) := by
  cases r with
  | stuck => trivial
  | exc c fs s' => exact fun hx Q => h hx _
  | ret d s1 =>
    cases d with
    | bl b =>
      show OkT B w F H σ Wx (fun Q => t (fun b H1 => u b H1 Q)) (k b s1)
      have hk := fun F1 H1 a c => hu b s1 F1 H1 rfl a c
      cases h2 : k b s1 with
      | stuck => trivial
      | exc c fs s2 =>
        intro hx Q
        refine h _ fun F1 H1 a c => ?_
        have z := hk F1 H1 a c
        rw [h2] at z
        exact z (fun od F2 H2 a2 b2 c2 => hx od F2 H2 (a.trans a2) b2 c2) Q
      | ret d2 s2 =>
        cases d2 with
        | bl b2 =>
          intro Q q
          refine h _ fun F1 H1 a c => ?_
          have z := hk F1 H1 a c
          rw [h2] at z
          exact z Q fun F2 H2 a2 b2 => q F2 H2 (a.trans a2) b2
        | _ => trivial
    | _ => trivial
theorem OkT.pure {s : HS} {b : Bool} (e : Ex F H) (st : StAt w s F H) : OkT B w F H σ Wx (fun Q => Q b H) (.ret (.bl b) s) := fun _ q => q F H (Step.refl e) st
theorem OkT.imp {t t' : (Bool → Hp → Prop) → Prop} {r : Res} (h : OkT B w F H σ Wx t r) (i : ∀ Q, t Q → t' Q) : OkT B w F H σ Wx t' r := by
  cases r with
  | stuck => trivial
  | exc c fs s' => exact fun hx Q => i Q (h hx Q)
  | ret d s' =>
    cases d with
    | bl b => exact fun Q q => i Q (h Q q)
    | _ => trivial
end
/-- a value that is a bool, as a test -/
def XT.ofE {B : Bs} (p : XE B) : XT B where
  tt := fun Wx => tB (p.te Wx)
  ev := fun Γ s => (p.ev Γ s).tst
  ok := fun {w F H σ Γ s} Wx e st sl => by
    have h := p.ok Wx e st sl
    cases hr : p.ev Γ s with
    | stuck => trivial
    | exc c fs s' => rw [hr] at h; exact fun hx Q => h hx _
    | ret d s' =>
      rw [hr] at h
      cases d with
      | bl b => exact fun Q q => h _ fun v F' H' a b r => ⟨_, rep_bl.mp r, q F' H' a b⟩
      | _ => trivial
def XT.and {B : Bs} (a b : XT B) : XT B where
  tt := fun Wx => tAnd (a.tt Wx) (b.tt Wx)
  ev := fun Γ s => (a.ev Γ s).bindB fun c s1 => if c = true then b.ev Γ s1 else .ret (.bl false) s1
  ok := fun {w F H σ Γ s} Wx e st sl => by
    refine (a.ok Wx e st sl).seqT (u := fun c H1 Q => if c = true then (b.tt Wx) σ H1 Q else Q false H1) fun c s1 F1 H1 _ a1 st1 => ?_
    cases c with
    | true =>
      simp only [if_true]
      exact b.ok Wx a1.fh st1 (sl.step a1)
    | false =>
      simp only [Bool.false_eq_true, if_false]
      exact OkT.pure a1.fh st1
def XT.or {B : Bs} (a b : XT B) : XT B where
  tt := fun Wx => tOr (a.tt Wx) (b.tt Wx)
  ev := fun Γ s => (a.ev Γ s).bindB fun c s1 => if c = true then .ret (.bl true) s1 else b.ev Γ s1
  ok := fun {w F H σ Γ s} Wx e st sl => by
    refine (a.ok Wx e st sl).seqT (u := fun c H1 Q => if c = true then Q true H1 else (b.tt Wx) σ H1 Q) fun c s1 F1 H1 _ a1 st1 => ?_
    cases c with
    | true =>
      simp only [if_true]
      exact OkT.pure a1.fh st1
    | false =>
      simp only [Bool.false_eq_true, if_false]
      exact b.ok Wx a1.fh st1 (sl.step a1)
def XT.not {B : Bs} (a : XT B) : XT B where
  tt := fun Wx => tNot (a.tt Wx)
  ev := fun Γ s => (a.ev Γ s).bindB fun c s1 => .ret (.bl (!c)) s1
  ok := fun {w F H σ Γ s} Wx e st sl =>
    (a.ok Wx e st sl).seqT (u := fun c H1 Q => Q (!c) H1) fun c s1 F1 H1 _ a1 st1 => OkT.pure a1.fh st1
/-- .. as values -/
def XE.and {B : Bs} (a b : XE B) : XE B where
  te := fun Wx => tAndV (a.te Wx) (b.te Wx)
  ev := fun Γ s => (a.ev Γ s).bindB fun c s1 => if c = true then b.ev Γ s1 else .ret (.bl false) s1
  ok := fun {w F H σ Γ s} Wx e st sl => by
    refine (((XT.ofE a).ok Wx e st sl).seqE (u := fun c H1 Q => if c = true then (b.te Wx) σ H1 Q else Q (.bl false) H1) (k := fun c s1 => if c = true then b.ev Γ s1 else .ret (.bl false) s1) fun c s1 F1 H1 _ a1 st1 => ?_).imp' (by
      show ((a.ev Γ s).tst).bindB _ = _
      cases a.ev Γ s with
      | ret d _ => cases d <;> rfl
      | _ => rfl) (fun Q q => q)
    cases c with
    | true =>
      simp only [if_true]
      exact b.ok Wx a1.fh st1 (sl.step a1)
    | false =>
      simp only [Bool.false_eq_true, if_false]
      exact OkE.pure a1.fh st1 (rep_bl.mpr rfl)
end Dv

set_option Elab.async false
set_option linter.all false
set_option maxRecDepth 100000
/-! # Statements, defs, loops -/
namespace Dv
open PySem PySem.Spec PyProof.Rows L2 Evl

theorem Res.bindB_tst (r : Res) (k : Bool → HS → Res) : r.tst.bindB k = r.bindB k := by
  cases r with
  | ret d _ => cases d <;> rfl
  | _ => rfl
def XE.or {B : Bs} (a b : XE B) : XE B where
  te := fun Wx => tOrV (a.te Wx) (b.te Wx)
  ev := fun Γ s => (a.ev Γ s).bindB fun c s1 => if c = true then .ret (.bl true) s1 else b.ev Γ s1
  ok := fun {w F H σ Γ s} Wx e st sl => by
    refine (((XT.ofE a).ok Wx e st sl).seqE (u := fun c H1 Q => if c = true then Q (.bl true) H1 else (b.te Wx) σ H1 Q) (k := fun c s1 => if c = true then .ret (.bl true) s1 else b.ev Γ s1) fun c s1 F1 H1 _ a1 st1 => ?_).imp' (Res.bindB_tst _ _) (fun Q q => q)
    cases c with
    | true =>
      simp only [if_true]
      exact OkE.pure a1.fh st1 (rep_bl.mpr rfl)
    | false =>
      simp only [Bool.false_eq_true, if_false]
      exact b.ok Wx a1.fh st1 (sl.step a1)
def XE.not {B : Bs} (a : XE B) : XE B where
  te := fun Wx => tNotV (a.te Wx)
  ev := fun Γ s => (a.ev Γ s).bindB fun c s1 => .ret (.bl (!c)) s1
  ok := fun {w F H σ Γ s} Wx e st sl =>
    (((XT.ofE a).ok Wx e st sl).seqE (u := fun c H1 Q => Q (.bl (!c)) H1) (k := fun c s1 => .ret (.bl (!c)) s1) fun c s1 F1 H1 _ a1 st1 => OkE.pure a1.fh st1 (rep_bl.mpr rfl)).imp' (Res.bindB_tst _ _) (fun Q q => q)
/-- a if t else b -/
def XE.ifx {B : Bs} (t : XT B) (a b : XE B) : XE B where
  te := fun Wx => tIf (t.tt Wx) (a.te Wx) (b.te Wx)
  ev := fun Γ s => (t.ev Γ s).bindB fun c s1 => if c = true then a.ev Γ s1 else b.ev Γ s1
  ok := fun {w F H σ Γ s} Wx e st sl => by
    refine (t.ok Wx e st sl).seqE (u := fun c H1 Q => if c = true then (a.te Wx) σ H1 Q else (b.te Wx) σ H1 Q) fun c s1 F1 H1 _ a1 st1 => ?_
    cases c with
    | true =>
      simp only [if_true]
      exact a.ok Wx a1.fh st1 (sl.step a1)
    | false =>
      simp only [Bool.false_eq_true, if_false]
      exact b.ok Wx a1.fh st1 (sl.step a1)

/-! ### what a def promises -/
abbrev Gf := List D → HS → Res
def spD (B : Bs) (n : Nat) (g : Gf) : Sp := fun vs H Q E => ∃ (w : Wd) (F : Hp) (ds : List D) (s : HS), ds.length = n ∧ Ex F H ∧ StAt w s F H ∧ Reps B w F ds vs ∧ (match g ds s with
  | .ret d s' => ∀ v F' H', Step w F H F' H' → StAt w s' F' H' → Rep B w F' d v → Q v H'
  | .exc c fs s' => ∀ od F' H', Step w F H F' H' → StAt w s' F' H' → ExAt B w F' fs od → E (.ref (B.ca c)) od H'
  | .stuck => False)
theorem spD_len {B : Bs} {n : Nat} {g : Gf} {vs : List V} {H : Hp} {Q : VK} {E : XK} (h : spD B n g vs H Q E) : vs.length = n := by
  obtain ⟨w, F, ds, s, hl, _, _, r, _⟩ := h
  rw [r.length, hl]
/-- a promise that is used -/
theorem spD_use {B : Bs} {n : Nat} {g : Gf} {w : Wd} {F H : Hp} {σ : L2.St} {Wx : WX} {ds : List D} {vs : List V} {s : HS} (hl : ds.length = n) (e : Ex F H) (st : StAt w s F H) (r : Reps B w F ds vs) :
    OkE B w F H σ Wx (fun Q => spD B n g vs H Q (WE Wx σ)) (g ds s) := by
  cases h : g ds s with
  | stuck => trivial
  | exc c fs s' => exact fun hx Q => ⟨w, F, ds, s, hl, e, st, r, by rw [h]; exact fun od F' H' a b c => hx od F' H' a b c⟩
  | ret d s' => exact fun Q q => ⟨w, F, ds, s, hl, e, st, r, by rw [h]; exact q⟩
/-- f(..) -/
def XE.call {B : Bs} (n : Nat) (g : Gf) (ps : List (XE B)) (hn : ps.length = n) : XE B where
  te := fun Wx => tCallS (spD B n g) (WE Wx) (tas Wx ps)
  ev := fun Γ s => evs Γ ps s g
  ok := fun {w F H σ Γ s} Wx e st sl =>
    evs_ok Wx ps (u := fun vs H1 Q => spD B n g vs H1 Q (WE Wx σ)) e st sl fun ds s1 vs F1 H1 a st1 r hl => spD_use (hl.trans hn) a.fh st1 r

/-! ### statements -/
inductive Out where
  | nxt (Γ : Gm) (s : HS) | ret (d : D) (s : HS) | brk (Γ : Gm) (s : HS) | cnt (Γ : Gm) (s : HS) | exc (c : Str) (fs : List (Str × D)) (Γ : Gm) (s : HS) | stuck

/-- the callers' own objects, and the instance that is being made (or changed) -/
structure Zs where
  z : Hp
  me : Addr
instance : CoeFun Zs (fun _ => Hp) := ⟨Zs.z⟩
structure Good (B : Bs) (w : Wd) (Z : Zs) (F H : Hp) (σ : L2.St) (Γ : Gm) (s : HS) : Prop where
  fh : Ex F H
  st : StAt w s F H
  sl : SlsAt B w F H Γ σ
  zz : ∀ a o, Z a = some o → F a = none ∧ H a = some o ∧ Off w a
  zo : ∀ (i : Nat) (t : Sl) (p : Addr), Γ[i]? = some t → owned t = true → σ[i]? = some (some (.ref p)) → Z p = none
  ow : ∀ (i j : Nat) (t u : Sl) (p : Addr), Γ[i]? = some t → Γ[j]? = some u → owned t = true → owned u = true → σ[i]? = some (some (.ref p)) → σ[j]? = some (some (.ref p)) → i = j
  ln : σ.length = Γ.length
  me : ∀ c fs, Γ[0]? = some (Sl.io c fs) → σ[0]? = some (some (.ref Z.me))
theorem Good.step {B : Bs} {w : Wd} {Z : Zs} {F H F' H' : Hp} {σ : L2.St} {Γ : Gm} {s s' : HS} (g : Good B w Z F H σ Γ s) (a : Step w F H F' H') (st : StAt w s' F' H') : Good B w Z F' H' σ Γ s' :=
  ⟨a.fh, st, g.sl.step a, fun x o hz => let ⟨h1, h2, h3⟩ := g.zz x o hz; let ⟨h4, h5⟩ := a.rest x o h2 h1 h3; ⟨h4, h5, h3⟩, g.zo, g.ow, g.ln, g.me⟩
/-- what is left of a def's frame when it is left -/
structure Gone (B : Bs) (w : Wd) (Z : Zs) (F H : Hp) (s : HS) : Prop where
  fh : Ex F H
  st : StAt w s F H
  zz : ∀ a o, Z a = some o → F a = none ∧ H a = some o ∧ Off w a
theorem Good.gone {B : Bs} {w : Wd} {Z : Zs} {F H : Hp} {σ : L2.St} {Γ : Gm} {s : HS} (g : Good B w Z F H σ Γ s) : Gone B w Z F H s := ⟨g.fh, g.st, g.zz⟩

def OkS (B : Bs) (w : Wd) (Z : Zs) (F : Hp) (Wx : WX) (D' : Ends) (t : Prop) (o : Out) : Prop := match o with
  | .nxt Γ s => (∀ F' H' σ', Ex F F' → Good B w Z F' H' σ' Γ s → D'.nx σ' H') → t
  | .brk Γ s => (∀ F' H' σ', Ex F F' → Good B w Z F' H' σ' Γ s → D'.bk σ' H') → t
  | .cnt Γ s => (∀ F' H' σ', Ex F F' → Good B w Z F' H' σ' Γ s → D'.ct σ' H') → t
  | .ret d s => (∀ v F' H', Ex F F' → Gone B w Z F' H' s → Rep B w F' d v → D'.rt v H') → t
  | .exc c fs Γ s => (∀ od F' H' σ', Ex F F' → Good B w Z F' H' σ' Γ s → ExAt B w F' fs od → Wx (.ref (B.ca c)) od σ' H') → t
  | .stuck => True
structure XS (B : Bs) where
  ts : WX → TS
  ev : Gm → HS → Out
  ok : ∀ {w : Wd} {Z : Zs} {F H : Hp} {σ : L2.St} {Γ : Gm} {s : HS} (Wx : WX) (D' : Ends), Good B w Z F H σ Γ s → OkS B w Z F Wx D' (ts Wx D' σ H) (ev Γ s)
def Out.bind (o : Out) (k : Gm → HS → Out) : Out := match o with
  | .nxt Γ s => k Γ s
  | .ret d s => .ret d s
  | .brk Γ s => .brk Γ s
  | .cnt Γ s => .cnt Γ s
  | .exc c fs Γ s => .exc c fs Γ s
  | .stuck => .stuck
/-- a result, then a statement's end -/
def Res.out (r : Res) (Γ : Gm) (k : D → HS → Out) : Out := match r with
  | .ret d s => k d s
  | .exc c fs s => .exc c fs Γ s
  | .stuck => .stuck
def Res.outB (r : Res) (Γ : Gm) (k : Bool → HS → Out) : Out := match r with
  | .ret (.bl b) s => k b s
  | .exc c fs s => .exc c fs Γ s
  | _ => .stuck
section
variable {B : Bs} {w : Wd} {Z : Zs} {F H : Hp} {σ : L2.St} {Γ : Gm} {s : HS} {Wx : WX} {D' : Ends}
theorem OkS.imp {t t' : Prop} {o : Out} (h : OkS B w Z F Wx D' t o) (i : t → t') : OkS B w Z F Wx D' t' o := by
  cases o with
  | stuck => trivial
  | _ => exact fun k => i (h k)
theorem OkS.back {F1 : Hp} {t : Prop} {o : Out} (e : Ex F F1) (h : OkS B w Z F1 Wx D' t o) : OkS B w Z F Wx D' t o := by
  cases o with
  | stuck => trivial
  | nxt _ _ => exact fun k => h fun F' H' σ' e' g => k F' H' σ' (e.trans e') g
  | brk _ _ => exact fun k => h fun F' H' σ' e' g => k F' H' σ' (e.trans e') g
  | cnt _ _ => exact fun k => h fun F' H' σ' e' g => k F' H' σ' (e.trans e') g
  | ret _ _ => exact fun k => h fun v F' H' e' g => k v F' H' (e.trans e') g
  | exc _ _ _ _ => exact fun k => h fun od F' H' σ' e' g => k od F' H' σ' (e.trans e') g
/-- pushes a continuation into a reading of an expression: t is what follows with the value -/
theorem OkE.stm {ta : VK → Prop} {u : V → Hp → Prop} {r : Res} {k : D → HS → Out} (g : Good B w Z F H σ Γ s) (h : OkE B w F H σ Wx ta r)
    (hu : ∀ d s1 v F1 H1, r = .ret d s1 → Step w F H F1 H1 → Good B w Z F1 H1 σ Γ s1 → Rep B w F1 d v → OkS B w Z F1 Wx D' (u v H1) (k d s1)) : OkS B w Z F Wx D' (ta u) (r.out Γ k) := by
  cases r with
  | stuck => trivial
  | exc c fs s' => exact fun hx => h (fun od F' H' a b c => hx od F' H' σ a.ff (g.step a b) c) u
  | ret d s1 =>
    show OkS B w Z F Wx D' (ta u) (k d s1)
    have hk := fun v F1 H1 (a : Step w F H F1 H1) (b : StAt w s1 F1 H1) c => (hu d s1 v F1 H1 rfl a (g.step a b) c).back a.ff
    cases h2 : k d s1 with
    | stuck => trivial
    | nxt _ _ => exact fun q => h u fun v F1 H1 a b c => by have z := hk v F1 H1 a b c; rw [h2] at z; exact z q
    | brk _ _ => exact fun q => h u fun v F1 H1 a b c => by have z := hk v F1 H1 a b c; rw [h2] at z; exact z q
    | cnt _ _ => exact fun q => h u fun v F1 H1 a b c => by have z := hk v F1 H1 a b c; rw [h2] at z; exact z q
    | ret _ _ => exact fun q => h u fun v F1 H1 a b c => by have z := hk v F1 H1 a b c; rw [h2] at z; exact z q
    | exc _ _ _ _ => exact fun q => h u fun v F1 H1 a b c => by have z := hk v F1 H1 a b c; rw [h2] at z; exact z q
theorem OkT.stm {ta : (Bool → Hp → Prop) → Prop} {u : Bool → Hp → Prop} {r : Res} {k : Bool → HS → Out} (g : Good B w Z F H σ Γ s) (h : OkT B w F H σ Wx ta r)
    (hu : ∀ b s1 F1 H1, r = .ret (.bl b) s1 → Step w F H F1 H1 → Good B w Z F1 H1 σ Γ s1 → OkS B w Z F1 Wx D' (u b H1) (k b s1)) : OkS B w Z F Wx D' (ta u) (r.outB Γ k) := by
  cases r with
  | stuck => trivial
  | exc c fs s' => exact fun hx => h (fun od F' H' a b c => hx od F' H' σ a.ff (g.step a b) c) u
  | ret d s1 =>
    cases d with
    | bl b =>
      show OkS B w Z F Wx D' (ta u) (k b s1)
      have hk := fun F1 H1 (a : Step w F H F1 H1) (c : StAt w s1 F1 H1) => (hu b s1 F1 H1 rfl a (g.step a c)).back a.ff
      cases h2 : k b s1 with
      | stuck => trivial
      | nxt _ _ => exact fun q => h u fun F1 H1 a c => by have z := hk F1 H1 a c; rw [h2] at z; exact z q
      | brk _ _ => exact fun q => h u fun F1 H1 a c => by have z := hk F1 H1 a c; rw [h2] at z; exact z q
      | cnt _ _ => exact fun q => h u fun F1 H1 a c => by have z := hk F1 H1 a c; rw [h2] at z; exact z q
      | ret _ _ => exact fun q => h u fun F1 H1 a c => by have z := hk F1 H1 a c; rw [h2] at z; exact z q
      | exc _ _ _ _ => exact fun q => h u fun F1 H1 a c => by have z := hk F1 H1 a c; rw [h2] at z; exact z q
    | _ => trivial
theorem Good.set {i : Nat} {d : D} {v : V} (g : Good B w Z F H σ Γ s) (r : Rep B w F d v) : Good B w Z F H (σ.set i (some v)) (Γ.set i (.fr d)) s := by
  refine ⟨g.fh, g.st, fun j t e => ?_, g.zz, fun j t p e ho hp => ?_, fun j k t u p e e' ho ho' hp hp' => ?_, by rw [List.length_set, List.length_set, g.ln], fun c fs e => ?_⟩
  · rw [List.getElem?_set] at e
    by_cases hij : i = j
    · subst hij
      rw [if_pos rfl] at e
      by_cases hi : i < Γ.length
      · rw [if_pos hi] at e
        cases e
        exact ⟨some v, by rw [List.getElem?_set_self (by rw [g.ln]; exact hi)], v, rfl, r⟩
      · rw [if_neg hi] at e; cases e
    · rw [if_neg hij] at e
      obtain ⟨x, h1, h2⟩ := g.sl j t e
      exact ⟨x, by rw [List.getElem?_set_ne hij]; exact h1, h2⟩
  · by_cases hij : i = j
    · subst hij
      rw [List.getElem?_set, if_pos rfl] at e
      split at e
      · cases e; cases ho
      · cases e
    · rw [List.getElem?_set_ne hij] at e hp
      exact g.zo j t p e ho hp
  · by_cases hij : i = j
    · subst hij
      rw [List.getElem?_set, if_pos rfl] at e
      split at e
      · cases e; cases ho
      · cases e
    · by_cases hik : i = k
      · subst hik
        rw [List.getElem?_set, if_pos rfl] at e'
        split at e'
        · cases e'; cases ho'
        · cases e'
      · rw [List.getElem?_set_ne hij] at e hp
        rw [List.getElem?_set_ne hik] at e' hp'
        exact g.ow j k t u p e e' ho ho' hp hp'
  · by_cases hi : i = 0
    · subst hi
      rw [List.getElem?_set, if_pos rfl] at e
      split at e
      · cases e
      · cases e
    · rw [List.getElem?_set_ne hi] at e ⊢
      exact g.me c fs e
end
def XS.seq {B : Bs} (a b : XS B) : XS B where
  ts := fun Wx => tSeq (a.ts Wx) (b.ts Wx)
  ev := fun Γ s => (a.ev Γ s).bind b.ev
  ok := fun {w Z F H σ Γ s} Wx D' g => by
    show OkS B w Z F Wx D' ((a.ts Wx) { D' with nx := (b.ts Wx) D' } σ H) _
    have h := a.ok Wx { D' with nx := (b.ts Wx) D' } g
    cases h1 : a.ev Γ s with
    | stuck => trivial
    | brk _ _ => rw [h1] at h; exact h
    | cnt _ _ => rw [h1] at h; exact h
    | ret _ _ => rw [h1] at h; exact h
    | exc _ _ _ _ => rw [h1] at h; exact h
    | nxt Γ1 s1 =>
      rw [h1] at h
      show OkS B w Z F Wx D' _ (b.ev Γ1 s1)
      have hk := fun F1 H1 σ1 (e : Ex F F1) (g1 : Good B w Z F1 H1 σ1 Γ1 s1) => (b.ok Wx D' g1).back e
      cases h2 : b.ev Γ1 s1 with
      | stuck => trivial
      | nxt _ _ => exact fun q => h fun F1 H1 σ1 e g1 => by have z := hk F1 H1 σ1 e g1; rw [h2] at z; exact z q
      | brk _ _ => exact fun q => h fun F1 H1 σ1 e g1 => by have z := hk F1 H1 σ1 e g1; rw [h2] at z; exact z q
      | cnt _ _ => exact fun q => h fun F1 H1 σ1 e g1 => by have z := hk F1 H1 σ1 e g1; rw [h2] at z; exact z q
      | ret _ _ => exact fun q => h fun F1 H1 σ1 e g1 => by have z := hk F1 H1 σ1 e g1; rw [h2] at z; exact z q
      | exc _ _ _ _ => exact fun q => h fun F1 H1 σ1 e g1 => by have z := hk F1 H1 σ1 e g1; rw [h2] at z; exact z q
def XS.pass (B : Bs) : XS B where
  ts := fun _ => tNext
  ev := fun Γ s => .nxt Γ s
  ok := fun {w Z F H σ Γ s} Wx D' g k => k F H σ (Ex.refl F) g
def XS.brk (B : Bs) : XS B where
  ts := fun _ => tBreak
  ev := fun Γ s => .brk Γ s
  ok := fun {w Z F H σ Γ s} Wx D' g k => k F H σ (Ex.refl F) g
def XS.cnt (B : Bs) : XS B where
  ts := fun _ => tCont
  ev := fun Γ s => .cnt Γ s
  ok := fun {w Z F H σ Γ s} Wx D' g k => k F H σ (Ex.refl F) g
/-- x = e -/
def XS.set {B : Bs} (i : Nat) (p : XE B) : XS B where
  ts := fun Wx => tAsg (p.te Wx) (gName i)
  ev := fun Γ s => (p.ev Γ s).out Γ fun d s1 => .nxt (Γ.set i (.fr d)) s1
  ok := fun {w Z F H σ Γ s} Wx D' g =>
    (p.ok Wx g.fh g.st g.sl).stm g (u := fun x H1 => D'.nx (σ.set i (some x)) H1) fun d s1 v F1 H1 _ a g1 r => fun k => k F1 H1 _ (Ex.refl F1) (g1.set r)
def XS.ret {B : Bs} (p : XE B) : XS B where
  ts := fun Wx => tRet (p.te Wx)
  ev := fun Γ s => (p.ev Γ s).out Γ fun d s1 => .ret d s1
  ok := fun {w Z F H σ Γ s} Wx D' g =>
    (p.ok Wx g.fh g.st g.sl).stm g (u := D'.rt) fun d s1 v F1 H1 _ a g1 r => fun k => k v F1 H1 (Ex.refl F1) g1.gone r
def XS.retN (B : Bs) : XS B where
  ts := fun _ => tRetN
  ev := fun Γ s => .ret .non s
  ok := fun {w Z F H σ Γ s} Wx D' g k => k .non F H (Ex.refl F) g.gone (rep_non.mpr rfl)
def XS.drop {B : Bs} (p : XE B) : XS B where
  ts := fun Wx => tDrop (p.te Wx)
  ev := fun Γ s => (p.ev Γ s).out Γ fun d s1 => .nxt Γ s1
  ok := fun {w Z F H σ Γ s} Wx D' g =>
    (p.ok Wx g.fh g.st g.sl).stm g (u := fun x H1 => D'.nx σ H1) fun d s1 v F1 H1 _ a g1 r => fun k => k F1 H1 _ (Ex.refl F1) g1
def XS.ite {B : Bs} (t : XT B) (a b : XS B) : XS B where
  ts := fun Wx => tIfS (t.tt Wx) (a.ts Wx) (b.ts Wx)
  ev := fun Γ s => (t.ev Γ s).outB Γ fun c s1 => if c = true then a.ev Γ s1 else b.ev Γ s1
  ok := fun {w Z F H σ Γ s} Wx D' g => by
    refine (t.ok Wx g.fh g.st g.sl).stm g (u := fun c H1 => if c = true then (a.ts Wx) D' σ H1 else (b.ts Wx) D' σ H1) fun c s1 F1 H1 _ a1 g1 => ?_
    cases c with
    | true =>
      simp only [if_true]
      exact a.ok Wx D' g1
    | false =>
      simp only [Bool.false_eq_true, if_false]
      exact b.ok Wx D' g1

/-! ### a def by its body -/
def Out.res : Out → Res
  | .nxt _ s => .ret .non s
  | .ret d s => .ret d s
  | .exc c fs _ s => .exc c fs s
  | _ => .stuck
/-- the body p, its names being m: the parameters first -/
def XS.fn {B : Bs} (p : XS B) (m : Nat) : Gf := fun ds s => (p.ev (ds.map Sl.fr ++ List.replicate (m - ds.length) Sl.no) s).res
open Classical in
/-- the caller's objects that are not frozen -/
noncomputable def Zof (w : Wd) (F H : Hp) : Hp := fun a => if F a = none ∧ Off w a then H a else none
theorem Zof.of {w : Wd} {F H : Hp} {a : Addr} {o : HO} (h : Zof w F H a = some o) : F a = none ∧ H a = some o ∧ Off w a := by
  unfold Zof at h
  split at h
  · rename_i hc; exact ⟨hc.1, h, hc.2⟩
  · cases h
theorem Zof.mk {w : Wd} {F H : Hp} {a : Addr} {o : HO} (h1 : F a = none) (h2 : Off w a) (h : H a = some o) : Zof w F H a = some o := by
  unfold Zof
  rw [if_pos ⟨h1, h2⟩]
  exact h
theorem start_good {B : Bs} {w : Wd} {F H : Hp} {ds : List D} {vs : List V} {s : HS} {N : List Str} (e : Ex F H) (st : StAt w s F H) (r : Reps B w F ds vs) :
    Good B w ⟨Zof w F H, 0⟩ F H (L2.start N vs) (ds.map Sl.fr ++ List.replicate (N.length - ds.length) Sl.no) s := by
  have hl := r.length
  refine ⟨e, st, fun i t h => ?_, fun a o h => Zof.of h, fun i t p h ho _ => ?_, fun i j t u p h _ ho _ _ _ => ?_, ?_, fun c fs h => ?_⟩
  · unfold L2.start
    by_cases hi : i < ds.length
    · rw [List.getElem?_append_left (by simpa using hi), List.getElem?_map] at h
      cases hd : ds[i]? with
      | none => rw [hd] at h; cases h
      | some d =>
        rw [hd] at h
        cases h
        obtain ⟨v, h1, h2⟩ := r.get hd
        refine ⟨some v, ?_, v, rfl, h2⟩
        rw [List.getElem?_append_left (by simp; omega), List.getElem?_map, h1] <;> rfl
    · rw [List.getElem?_append_right (by simp; omega), List.getElem?_replicate] at h
      split at h
      · cases h
        refine ⟨none, ?_, trivial⟩
        rw [List.getElem?_append_right (by simp; omega), List.getElem?_replicate, if_pos (by simp at *; omega)]
      · cases h
  · exfalso
    by_cases hi : i < ds.length
    · rw [List.getElem?_append_left (by simpa using hi), List.getElem?_map] at h
      cases hd : ds[i]? with
      | none => rw [hd] at h; cases h
      | some d => rw [hd] at h; cases h; cases ho
    · rw [List.getElem?_append_right (by simp; omega), List.getElem?_replicate] at h
      split at h
      · cases h; cases ho
      · cases h
  · exfalso
    by_cases hi : i < ds.length
    · rw [List.getElem?_append_left (by simpa using hi), List.getElem?_map] at h
      cases hd : ds[i]? with
      | none => rw [hd] at h; cases h
      | some d => rw [hd] at h; cases h; cases ho
    · rw [List.getElem?_append_right (by simp; omega), List.getElem?_replicate] at h
      split at h
      · cases h; cases ho
      · cases h
  · unfold L2.start
    simp [hl]
  · exfalso
    by_cases hi : 0 < ds.length
    · rw [List.getElem?_append_left (by simpa using hi), List.getElem?_map] at h
      cases hd : ds[0]? with
      | none => rw [hd] at h; cases h
      | some d => rw [hd] at h; cases h
    · have e0 : ds = [] := List.eq_nil_of_length_eq_zero (by omega)
      subst e0
      rw [List.map_nil, List.nil_append, List.getElem?_replicate] at h
      split at h
      · cases h
      · cases h
/-- a body keeps what its def promises -/
theorem body_ok {B : Bs} {n : Nat} {N : List Str} {p : XS B} {g : Gf} (hg : ∀ ds s, ds.length = n → g ds s = p.fn N.length ds s) {vs : List V} {H : Hp} {Q : VK} {E : XK} (h : spD B n g vs H Q E) :
    (p.ts fun cls d _ H => E cls d H) { nx := fun _ H' => Q .non H', rt := Q } (L2.start N vs) H := by
  obtain ⟨w, F, ds, s, hl, e, st, r, hm⟩ := h
  rw [hg ds s hl] at hm
  have z := p.ok (fun cls d _ H => E cls d H) { nx := fun _ H' => Q .non H', rt := Q } (start_good (N := N) e st r)
  have fin : ∀ {F' H' : Hp} {s' : HS}, Ex F F' → Gone B w ⟨Zof w F H, 0⟩ F' H' s' → Step w F H F' H' := fun {F' H' s'} e' g' =>
    ⟨e', g'.fh, fun a o h1 h2 h3 => let ⟨h4, h5, _⟩ := g'.zz a o (Zof.mk h2 h3 h1); ⟨h4, h5⟩⟩
  unfold XS.fn at hm
  cases ho : p.ev (ds.map Sl.fr ++ List.replicate (N.length - ds.length) Sl.no) s with
  | nxt Γ s' => rw [ho] at hm z; exact z fun F' H' σ' e' g' => hm .non F' H' (fin e' g'.gone) g'.st (rep_non.mpr rfl)
  | ret d s' => rw [ho] at hm z; exact z fun v F' H' e' g' r' => hm v F' H' (fin e' g') g'.st r'
  | exc c fs Γ s' => rw [ho] at hm z; exact z fun od F' H' σ' e' g' x => hm od F' H' (fin e' g'.gone) g'.st x
  | brk _ _ => rw [ho] at hm; exact hm.elim
  | cnt _ _ => rw [ho] at hm; exact hm.elim
  | stuck => rw [ho] at hm; exact hm.elim
section
variable {P : Program} {w : World} {mg : Str → Option Value} {base : Heap}
/-- THE RULE for a def -/
theorem fn_ok {B : Bs} {x qual : Str} {st : Stmt} {f : Addr} {fd : FuncData} {N ps : List Str} {k : Nat} {g : Gf} {p : XS B} (Fn : Fun B.K x qual st f fd) (S : FnScope N ps (defScope st)) (hg : ∀ ds s, ds.length = ps.length → g ds s = p.fn N.length ds s)
    (hb : ∀ (cdv : Value) (A : Around) (outer : List Env) (s : Shared) (H : Hp) (E : XK), Room k (A.deeper (envOfC qual (defScope st) s.heap.objs.size f cdv)) →
      PSs (cxOf (L2.CX P w) P w B.K mg base N qual (defScope st) f cdv A outer s H E) (defBody st) (p.ts fun cls d _ H => E cls d H)) :
    FnOk P w B.K mg base (L2.CX P w) (k + 1) f fd ps (spD B ps.length g) :=
  Fn.okX S (fun vs H Q E h => spD_len h) fun cdv A outer s H vs Q E hr h => ⟨_, hb cdv A outer s H E hr, body_ok hg h⟩
end
end Dv

set_option Elab.async false
set_option linter.all false
set_option maxRecDepth 100000
/-! # Targets, loops, comprehensions, new lists, lists that are changed -/
namespace Dv
open PySem PySem.Spec PyProof.Rows L2 Evl

/-! ### targets -/
def setGm (Γ : Gm) : List (Nat × D) → Gm
  | [] => Γ
  | (i, d) :: l => setGm (Γ.set i (.fr d)) l
def setSt (σ : L2.St) : List (Nat × V) → L2.St
  | [] => σ
  | (i, v) :: l => setSt (σ.set i (some v)) l
abbrev Asg (B : Bs) (w : Wd) (F : Hp) : List (Nat × D) → List (Nat × V) → Prop := Paired fun a b => a.1 = b.1 ∧ Rep B w F a.2 b.2
theorem Asg.append {B : Bs} {w : Wd} {F : Hp} : ∀ {l m : List (Nat × D)} {l' m' : List (Nat × V)}, Asg B w F l l' → Asg B w F m m' → Asg B w F (l ++ m) (l' ++ m')
  | _, _, _, _, .nil, h => h
  | _, _, _, _, .cons r t, h => .cons r (Asg.append t h)
theorem setSt_append (σ : L2.St) : ∀ l m : List (Nat × V), setSt σ (l ++ m) = setSt (setSt σ l) m
  | [], _ => rfl
  | (i, v) :: l, m => setSt_append (σ.set i (some v)) l m
theorem Good.sets {B : Bs} {w : Wd} {Z : Zs} {F H : Hp} : ∀ {l : List (Nat × D)} {l' : List (Nat × V)} {σ : L2.St} {Γ : Gm} {s : HS}, Asg B w F l l' → Good B w Z F H σ Γ s → Good B w Z F H (setSt σ l') (setGm Γ l) s
  | _, _, _, _, _, .nil, g => g
  | _, _, σ, Γ, s, .cons (a := a) (b := b) (l₁ := l₁) (l₂ := l₂) r t, g => by
    obtain ⟨i, d⟩ := a
    obtain ⟨j, v⟩ := b
    obtain ⟨e, r⟩ := r
    cases e
    have z := Good.sets (σ := σ.set i (some v)) (Γ := Γ.set i (.fr d)) t (g.set r)
    exact z
structure XG (B : Bs) where
  tg : TG
  as : D → Option (List (Nat × D))
  ok : ∀ {w : Wd} {F H : Hp} {d : D} {x : V} {l : List (Nat × D)}, as d = some l → Ex F H → Rep B w F d x → ∃ l', Asg B w F l l' ∧ ∀ (σ : L2.St) (Q : L2.St → Hp → Prop), Q (setSt σ l') H → tg x σ H Q
def XG.name (B : Bs) (i : Nat) : XG B where
  tg := gName i
  as := fun d => some [(i, d)]
  ok := fun {w F H d x l} h e r => by
    cases h
    exact ⟨[(i, x)], .cons ⟨rfl, r⟩ .nil, fun σ Q q => q⟩
def tgs {B : Bs} : List (XG B) → TGs
  | [] => gNil
  | g :: gs => gCons g.tg (tgs gs)
def ass {B : Bs} : List (XG B) → List D → Option (List (Nat × D))
  | [], [] => some []
  | g :: gs, d :: ds => match g.as d with
    | some l => match ass gs ds with
      | some m => some (l ++ m)
      | none => none
    | none => none
  | _, _ => none
theorem tgs_ok {B : Bs} {w : Wd} {F H : Hp} (e : Ex F H) : ∀ (gs : List (XG B)) {ds : List D} {xs : List V} {l : List (Nat × D)}, ass gs ds = some l → Reps B w F ds xs → ∃ l', Asg B w F l l' ∧ xs.length = gs.length ∧ ∀ (σ : L2.St) (Q : L2.St → Hp → Prop), Q (setSt σ l') H → tgs gs xs σ H Q
  | [], [], xs, l, h, r => by
    cases h
    rw [reps_nil.mp r]
    exact ⟨[], .nil, rfl, fun σ Q q => ⟨rfl, q⟩⟩
  | [], d :: ds, xs, l, h, r => by cases h
  | g :: gs, [], xs, l, h, r => by cases h
  | g :: gs, d :: ds, xs, l, h, r => by
    obtain ⟨v, vs, rfl, r1, r2⟩ := reps_cons.mp r
    unfold ass at h
    cases h1 : g.as d with
    | none => rw [h1] at h; cases h
    | some l1 =>
      rw [h1] at h
      cases h2 : ass gs ds with
      | none => rw [h2] at h; cases h
      | some l2 =>
        rw [h2] at h
        cases h
        obtain ⟨a, ha, qa⟩ := g.ok h1 e r1
        obtain ⟨b, hb, hl, qb⟩ := tgs_ok e gs h2 r2
        refine ⟨a ++ b, ha.append hb, by simp [hl], fun σ Q q => ⟨v, vs, rfl, qa σ _ (qb _ Q ?_)⟩⟩
        rw [← setSt_append]
        exact q
def XG.tup {B : Bs} (gs : List (XG B)) : XG B where
  tg := gTup B.K gs.length (tgs gs)
  as := fun d => match d with
    | .tup _ ds => ass gs ds
    | _ => none
  ok := fun {w F H d x l} h e r => by
    cases d with
    | tup pl ds =>
      obtain ⟨p, xs, rfl, ht, hr⟩ := rep_tupE r
      obtain ⟨l', h1, hl, q⟩ := tgs_ok e gs h hr
      exact ⟨l', h1, fun σ Q k => ⟨p, xs, rfl, ex_t e ht, hl, q σ Q k⟩⟩
    | _ => cases h

/-! ### what is walked -/
def Yl (B : Bs) (w : Wd) (F1 : Hp) (J : It) (ds : List D) : Prop := ∀ F H, Ex F1 F → Ex F H → (∀ (i : Nat) (d : D), ds[i]? = some d → J.go i H ∧ ∀ x H', J.yld i H x H' → ∃ F', Step w F H F' H' ∧ Keeps w F H F' H' ∧ Rep B w F' d x) ∧ J.stop ds.length H
def OkI (B : Bs) (w : Wd) (F H : Hp) (σ : L2.St) (Wx : WX) (t : (It → Hp → Prop) → Prop) (r : Res) : Prop := match r with
  | .ret (.lst ds) s' => ∀ R : It → Hp → Prop, (∀ J F' H', Step w F H F' H' → StAt w s' F' H' → Yl B w F' J ds → R J H') → t R
  | .exc c fs s' => (∀ od F' H', Step w F H F' H' → StAt w s' F' H' → ExAt B w F' fs od → Wx (.ref (B.ca c)) od σ H') → ∀ R, t R
  | _ => True
structure XI (B : Bs) where
  ti : WX → TI
  ev : Gm → HS → Res
  ok : ∀ {w : Wd} {F H : Hp} {σ : L2.St} {Γ : Gm} {s : HS} (Wx : WX), Ex F H → StAt w s F H → SlsAt B w F H Γ σ → OkI B w F H σ Wx (ti Wx σ H) (ev Γ s)
/-- by an expression's value -/
theorem OkI.seq {B : Bs} {w : Wd} {F H : Hp} {σ : L2.St} {Wx : WX} {ta : VK → Prop} {u : V → Hp → (It → Hp → Prop) → Prop} {ra : Res} {f : D → Option (List D)} (ha : OkE B w F H σ Wx ta ra)
    (hu : ∀ d ds v F1 H1, f d = some ds → Ex F1 H1 → Rep B w F1 d v → ∃ J, Yl B w F1 J ds ∧ ∀ R : It → Hp → Prop, R J H1 → u v H1 R) :
    OkI B w F H σ Wx (fun R => ta (fun x H1 => u x H1 R)) (ra.bind fun d s1 => match f d with
      | some ds => .ret (.lst ds) s1
      | none => .stuck) := by
  cases ra with
  | stuck => trivial
  | exc c fs s' => exact fun hx R => ha hx _
  | ret d s1 =>
    show OkI B w F H σ Wx _ (match f d with
      | some ds => .ret (.lst ds) s1
      | none => .stuck)
    cases h : f d with
    | none => trivial
    | some ds =>
      intro R k
      refine ha _ fun v F1 H1 a b c => ?_
      obtain ⟨J, h1, h2⟩ := hu d ds v F1 H1 h a.fh c
      exact h2 R (k J F1 H1 a b h1)
theorem yl_list {B : Bs} {w : Wd} {F1 : Hp} {a : Addr} {xs : List V} {ds : List D} (hx : SqL B.K F1 a xs) (r : Reps B w F1 ds xs) : Yl B w F1 (Itl B.K a) ds := fun F H e1 e2 => by
  have hq := ex_l (e1.trans e2) hx
  refine ⟨fun i d hd => ?_, xs, hq, by rw [r.length]; exact Nat.le_refl _⟩
  obtain ⟨v, h1, h2⟩ := r.get hd
  refine ⟨⟨xs, v, hq, h1⟩, fun x H' y => ?_⟩
  obtain ⟨e, y⟩ := y
  subst e
  have hv := y xs hq
  rw [h1] at hv
  cases hv
  exact ⟨F, Step.refl e2, fun _ z => z, h2.mono e1⟩
theorem yl_tup {B : Bs} {w : Wd} {F1 : Hp} {a : Addr} {xs : List V} {ds : List D} (hx : SqT B.K F1 a xs) (r : Reps B w F1 ds xs) : Yl B w F1 (Itt B.K a) ds := fun F H e1 e2 => by
  have hq := ex_t (e1.trans e2) hx
  refine ⟨fun i d hd => ?_, xs, hq, by rw [r.length]; exact Nat.le_refl _⟩
  obtain ⟨v, h1, h2⟩ := r.get hd
  refine ⟨⟨xs, v, hq, h1⟩, fun x H' y => ?_⟩
  obtain ⟨e, y⟩ := y
  subst e
  have hv := y xs hq
  rw [h1] at hv
  cases hv
  exact ⟨F, Step.refl e2, fun _ z => z, h2.mono e1⟩
theorem yl_str {B : Bs} {w : Wd} {F1 : Hp} {x : Str} : Yl B w F1 (Its x) (x.cps.toList.map fun c => D.str ⟨#[c]⟩) := fun F H e1 e2 => by
  refine ⟨fun i d hd => ?_, ?_⟩
  · rw [List.getElem?_map] at hd
    cases hc : x.cps.toList[i]? with
    | none => rw [hc] at hd; cases hd
    | some c =>
      rw [hc] at hd
      cases hd
      have hi : i < x.cps.size := by
        have := (List.getElem?_eq_some_iff.mp hc).1
        simpa using this
      refine ⟨hi, fun v H' y => ?_⟩
      obtain ⟨e, c', h1, h2⟩ := y
      subst e h2
      have : x.cps[i]? = some c := by simpa using hc
      rw [this] at h1
      cases h1
      exact ⟨F, Step.refl e2, fun _ z => z, rep_str.mpr rfl⟩
  · show x.cps.size ≤ _
    simp
theorem yl_range {B : Bs} {w : Wd} {F1 : Hp} {lo : Int} {n : Nat} : Yl B w F1 (Itr lo n) ((List.range n).map fun (i : Nat) => D.int (lo + (i : Int))) := fun F H e1 e2 => by
  refine ⟨fun i d hd => ?_, ?_⟩
  · rw [List.getElem?_map] at hd
    have hi : i < n := by
      rcases Nat.lt_or_ge i n with h | h
      · exact h
      · rw [List.getElem?_eq_none (by simpa using h)] at hd; cases hd
    rw [List.getElem?_range hi] at hd
    cases hd
    refine ⟨hi, fun v H' y => ?_⟩
    obtain ⟨e, h1⟩ := y
    subst e h1
    exact ⟨F, Step.refl e2, fun _ z => z, rep_int.mpr rfl⟩
  · show n ≤ _
    simp
def itemsOf : D → Option (List D)
  | .lst ds => some ds
  | .rol ns => some (ns.map D.int)
  | .tup _ ds => some ds
  | .str x => some (x.cps.toList.map fun c => D.str ⟨#[c]⟩)
  | _ => none
/-- a list, a tuple, a text -/
def XI.of {B : Bs} (p : XE B) : XI B where
  ti := fun Wx σ H R => iList B.K (p.te Wx) σ H R ∨ iTup B.K (p.te Wx) σ H R ∨ iStr (p.te Wx) σ H R
  ev := fun Γ s => (p.ev Γ s).bind fun d s1 => match itemsOf d with
    | some ds => .ret (.lst ds) s1
    | none => .stuck
  ok := fun {w F H σ Γ s} Wx e st sl => by
    have h := p.ok Wx e st sl
    cases hr : p.ev Γ s with
    | stuck => trivial
    | exc c fs s' => rw [hr] at h; exact fun hx R => .inl (h hx _)
    | ret d s1 =>
      rw [hr] at h
      cases d with
      | lst ds =>
        refine fun R k => .inl (h _ fun v F1 H1 a b c => ?_)
        obtain ⟨q, xs, rfl, hq, hr⟩ := rep_lst.mp c
        exact ⟨q, rfl, ⟨xs, sq_of (a.fh _ _ hq)⟩, k _ F1 H1 a b (yl_list (sq_of hq) hr)⟩
      | rol ns =>
        refine fun R k => .inl (h _ fun v F1 H1 a b c => ?_)
        obtain ⟨q, rfl, hq⟩ := rep_rol.mp c
        exact ⟨q, rfl, ⟨_, ex_l a.fh hq⟩, k _ F1 H1 a b (yl_list hq reps_ints)⟩
      | tup pl ds =>
        refine fun R k => .inr (.inl (h _ fun v F1 H1 a b c => ?_))
        obtain ⟨q, xs, rfl, hq, hr⟩ := rep_tupE c
        exact ⟨q, rfl, ⟨xs, ex_t a.fh hq⟩, k _ F1 H1 a b (yl_tup hq hr)⟩
      | str x =>
        refine fun R k => .inr (.inr (h _ fun v F1 H1 a b c => ?_))
        cases rep_str.mp c
        exact ⟨x, rfl, k _ F1 H1 a b yl_str⟩
      | _ => trivial
def rangeD (lo hi : Int) : List D := (List.range (hi - lo).toNat).map fun (i : Nat) => D.int (lo + (i : Int))
/-- range(n) -/
def XI.range1 {B : Bs} (p : XE B) : XI B where
  ti := fun Wx => iRng1 (tas Wx [p])
  ev := fun Γ s => (p.ev Γ s).bind fun d s1 => match d with
    | .int n => if -(2 ^ 62) ≤ n ∧ n < 2 ^ 62 then .ret (.lst (rangeD 0 n)) s1 else .stuck
    | _ => .stuck
  ok := fun {w F H σ Γ s} Wx e st sl => by
    have h := p.ok Wx e st sl
    cases hr : p.ev Γ s with
    | stuck => trivial
    | exc c fs s' => rw [hr] at h; exact fun hx R => h hx _
    | ret d s1 =>
      rw [hr] at h
      cases d with
      | int n =>
        show OkI B w F H σ Wx _ (if -(2 ^ 62) ≤ n ∧ n < 2 ^ 62 then .ret (.lst (rangeD 0 n)) s1 else .stuck)
        by_cases hc : -(2 ^ 62) ≤ n ∧ n < 2 ^ 62
        · rw [if_pos hc]
          refine fun R k => h _ fun v F1 H1 a b c => ?_
          cases rep_int.mp c
          refine ⟨n, rfl, hc.1, hc.2, k _ F1 H1 a b ?_⟩
          unfold rangeD
          rw [Int.sub_zero]
          exact yl_range
        · rw [if_neg hc]; trivial
      | _ => trivial

/-- a turn's end: what the loop does then -/
def Out.turn (o : Out) (k : Gm → HS → Out) : Out := match o with
  | .nxt Γ s => k Γ s
  | .cnt Γ s => k Γ s
  | .brk Γ s => .nxt Γ s
  | .ret d s => .ret d s
  | .exc c fs Γ s => .exc c fs Γ s
  | .stuck => .stuck
/-! ### for -/
def forL {B : Bs} (g : XG B) (b : Gm → HS → Out) : List D → Gm → HS → Out
  | [], Γ, s => .nxt Γ s
  | d :: ds, Γ, s => match g.as d with
    | none => .stuck
    | some l => (b (setGm Γ l) s).turn (forL g b ds)
def HypS (B : Bs) (w : Wd) (Z : Zs) (F : Hp) (Wx : WX) (D' : Ends) (o : Out) : Prop := match o with
  | .nxt Γ s => (∀ F' H' σ', Ex F F' → Good B w Z F' H' σ' Γ s → D'.nx σ' H')
  | .brk Γ s => (∀ F' H' σ', Ex F F' → Good B w Z F' H' σ' Γ s → D'.bk σ' H')
  | .cnt Γ s => (∀ F' H' σ', Ex F F' → Good B w Z F' H' σ' Γ s → D'.ct σ' H')
  | .ret d s => (∀ v F' H', Ex F F' → Gone B w Z F' H' s → Rep B w F' d v → D'.rt v H')
  | .exc c fs Γ s => (∀ od F' H' σ', Ex F F' → Good B w Z F' H' σ' Γ s → ExAt B w F' fs od → Wx (.ref (B.ca c)) od σ' H')
  | .stuck => False
theorem okS_of {B : Bs} {w : Wd} {Z : Zs} {F : Hp} {Wx : WX} {D' : Ends} {t : Prop} {o : Out} (h : HypS B w Z F Wx D' o → t) : OkS B w Z F Wx D' t o := by
  cases o with
  | stuck => trivial
  | _ => exact h
theorem OkS.use {B : Bs} {w : Wd} {Z : Zs} {F : Hp} {Wx : WX} {D' : Ends} {t : Prop} {o : Out} (h : OkS B w Z F Wx D' t o) (k : HypS B w Z F Wx D' o) : t := by
  cases o with
  | stuck => exact k.elim
  | _ => exact h k
theorem HypS.mono {B : Bs} {w : Wd} {Z : Zs} {F F1 : Hp} {Wx : WX} {D' : Ends} {o : Out} (e : Ex F F1) (h : HypS B w Z F Wx D' o) : HypS B w Z F1 Wx D' o := by
  cases o with
  | stuck => exact h
  | nxt _ _ => exact fun F' H' σ' e' => h F' H' σ' (e.trans e')
  | brk _ _ => exact fun F' H' σ' e' => h F' H' σ' (e.trans e')
  | cnt _ _ => exact fun F' H' σ' e' => h F' H' σ' (e.trans e')
  | ret _ _ => exact fun v F' H' e' => h v F' H' (e.trans e')
  | exc _ _ _ _ => exact fun od F' H' σ' e' => h od F' H' σ' (e.trans e')
def Res.outL (r : Res) (Γ : Gm) (k : List D → HS → Out) : Out := match r with
  | .ret (.lst ds) s => k ds s
  | .exc c fs s => .exc c fs Γ s
  | _ => .stuck
theorem drop_at {α : Type} {l : List α} {i : Nat} (hi : i < l.length) : l.drop i = l[i] :: l.drop (i + 1) := List.drop_eq_getElem_cons hi
def XS.for {B : Bs} (it : XI B) (g : XG B) (b : XS B) : XS B where
  ts := fun Wx => tFor (it.ti Wx) g.tg (b.ts Wx)
  ev := fun Γ s => (it.ev Γ s).outL Γ fun ds s1 => forL g b.ev ds Γ s1
  ok := fun {w Z F H σ Γ s} Wx D' gd => by
    have h := it.ok Wx gd.fh gd.st gd.sl
    cases hr : it.ev Γ s with
    | stuck => trivial
    | exc c fs s' =>
      rw [hr] at h
      exact fun hx => h (fun od F' H' a b c => hx od F' H' σ a.ff (gd.step a b) c) _
    | ret d s1 =>
      rw [hr] at h
      cases d with
      | lst ds =>
        show OkS B w Z F Wx D' _ (forL g b.ev ds Γ s1)
        refine okS_of fun hyp => h _ fun J F1 H1 a st1 yl => ?_
        have hyp1 := hyp.mono a.ff
        refine ⟨fun i m σ' H' => ∃ F' Γ' s', Ex F1 F' ∧ Good B w Z F' H' σ' Γ' s' ∧ m = ds.length - i ∧ i ≤ ds.length ∧ HypS B w Z F' Wx D' (forL g b.ev (ds.drop i) Γ' s'),
          ⟨ds.length, F1, Γ, s1, Ex.refl F1, gd.step a st1, by simp, Nat.zero_le _, by rw [List.drop_zero]; exact hyp1⟩, ?_⟩
        rintro i m σ' H' ⟨F', Γ', s', e', g', rfl, hi, hy⟩
        obtain ⟨y1, y2⟩ := yl F' H' e' g'.fh
        by_cases hlt : i < ds.length
        · rw [drop_at hlt] at hy
          obtain ⟨go, yi⟩ := y1 i ds[i] (List.getElem?_eq_getElem hlt)
          unfold forL at hy
          cases hl : g.as ds[i] with
          | none => rw [hl] at hy; exact hy.elim
          | some l =>
            rw [hl] at hy
            refine .inr ⟨go, fun σ2 H2 => ∃ F2 Γ2 s2, Ex F1 F2 ∧ Good B w Z F2 H2 σ2 Γ2 s2 ∧ HypS B w Z F2 Wx D' (forL g b.ev (ds.drop (i + 1)) Γ2 s2),
              fun σ2 H2 ⟨F2, Γ2, s2, e2, g2, h2⟩ => ⟨ds.length - (i + 1), by omega, F2, Γ2, s2, e2, g2, rfl, hlt, h2⟩, fun x H2 hx => ?_⟩
            obtain ⟨F2, st2, kp2, r2⟩ := yi x H2 hx
            have g2 := g'.step st2 (kp2 _ g'.st)
            obtain ⟨l', as2, q2⟩ := g.ok hl g2.fh r2
            refine q2 σ' _ ?_
            have g3 := g2.sets as2
            have hb := b.ok Wx { D' with nx := fun σ2 H2 => ∃ F2 Γ2 s2, Ex F1 F2 ∧ Good B w Z F2 H2 σ2 Γ2 s2 ∧ HypS B w Z F2 Wx D' (forL g b.ev (ds.drop (i + 1)) Γ2 s2), ct := fun σ2 H2 => ∃ F2 Γ2 s2, Ex F1 F2 ∧ Good B w Z F2 H2 σ2 Γ2 s2 ∧ HypS B w Z F2 Wx D' (forL g b.ev (ds.drop (i + 1)) Γ2 s2), bk := D'.nx } g3
            refine hb.use ?_
            have eF : Ex F' F2 := st2.ff
            have hy2 : HypS B w Z F' Wx D' ((b.ev (setGm Γ' l) s').turn (forL g b.ev (ds.drop (i + 1)))) := hy
            cases ho : b.ev (setGm Γ' l) s' with
            | stuck => rw [ho] at hy2; exact hy2.elim
            | nxt Γ4 s4 => rw [ho] at hy2; exact fun F4 H4 σ4 e4 g4 => ⟨F4, Γ4, s4, (e'.trans eF).trans e4, g4, hy2.mono (eF.trans e4)⟩
            | cnt Γ4 s4 => rw [ho] at hy2; exact fun F4 H4 σ4 e4 g4 => ⟨F4, Γ4, s4, (e'.trans eF).trans e4, g4, hy2.mono (eF.trans e4)⟩
            | brk Γ4 s4 => rw [ho] at hy2; exact fun F4 H4 σ4 e4 g4 => hy2 F4 H4 σ4 (eF.trans e4) g4
            | ret d4 s4 => rw [ho] at hy2; exact fun v F4 H4 e4 g4 r4 => hy2 v F4 H4 (eF.trans e4) g4 r4
            | exc c4 f4 Γ4 s4 => rw [ho] at hy2; exact fun od F4 H4 σ4 e4 g4 r4 => hy2 od F4 H4 σ4 (eF.trans e4) g4 r4
        · have e : i = ds.length := by omega
          subst e
          rw [List.drop_length] at hy
          exact .inl ⟨y2, hy F' H' σ' (Ex.refl F') g'⟩
      | _ => trivial
/-! ### while -/
def whileL (t : Gm → HS → Res) (b : Gm → HS → Out) : Nat → Gm → HS → Out
  | 0, _, _ => .stuck
  | n + 1, Γ, s => (t Γ s).outB Γ fun c s1 => if c = true then (b Γ s1).turn (whileL t b n) else .nxt Γ s1
def XS.while {B : Bs} (n : Nat) (t : XT B) (b : XS B) : XS B where
  ts := fun Wx => tWhile (t.tt Wx) (b.ts Wx)
  ev := whileL t.ev b.ev n
  ok := fun {w Z F H σ Γ s} Wx D' gd => by
    refine okS_of fun hyp => ?_
    refine ⟨fun m σ' H' => ∃ F' Γ' s', Ex F F' ∧ Good B w Z F' H' σ' Γ' s' ∧ HypS B w Z F' Wx D' (whileL t.ev b.ev m Γ' s'), ⟨n, F, Γ, s, Ex.refl F, gd, hyp⟩, ?_⟩
    rintro m σ' H' ⟨F', Γ', s', e', g', hy⟩
    cases m with
    | zero => exact hy.elim
    | succ m =>
      unfold whileL at hy
      have h := t.ok Wx g'.fh g'.st g'.sl
      cases hr : t.ev Γ' s' with
      | stuck => rw [hr] at hy; exact hy.elim
      | exc c fs s1 =>
        rw [hr] at hy h
        exact h (fun od F1 H1 a b c => hy od F1 H1 σ' a.ff (g'.step a b) c) _
      | ret d s1 =>
        rw [hr] at hy h
        cases d with
        | bl c =>
          refine h _ fun F1 H1 a st1 => ?_
          have g1 := g'.step a st1
          cases c with
          | false =>
            rw [if_neg Bool.false_ne_true]
            exact hy F1 H1 σ' a.ff g1
          | true =>
            rw [if_pos rfl]
            refine ⟨fun σ2 H2 => ∃ F2 Γ2 s2, Ex F F2 ∧ Good B w Z F2 H2 σ2 Γ2 s2 ∧ HypS B w Z F2 Wx D' (whileL t.ev b.ev m Γ2 s2), fun σ2 H2 h2 => ⟨m, Nat.lt_succ_self m, h2⟩, ?_⟩
            refine (b.ok Wx { D' with nx := fun σ2 H2 => ∃ F2 Γ2 s2, Ex F F2 ∧ Good B w Z F2 H2 σ2 Γ2 s2 ∧ HypS B w Z F2 Wx D' (whileL t.ev b.ev m Γ2 s2), ct := fun σ2 H2 => ∃ F2 Γ2 s2, Ex F F2 ∧ Good B w Z F2 H2 σ2 Γ2 s2 ∧ HypS B w Z F2 Wx D' (whileL t.ev b.ev m Γ2 s2), bk := D'.nx } g1).use ?_
            have eF : Ex F' F1 := a.ff
            have hy2 : HypS B w Z F' Wx D' ((b.ev Γ' s1).turn (whileL t.ev b.ev m)) := hy
            cases ho : b.ev Γ' s1 with
            | stuck => rw [ho] at hy2; exact hy2.elim
            | nxt Γ4 s4 => rw [ho] at hy2; exact fun F4 H4 σ4 e4 g4 => ⟨F4, Γ4, s4, (e'.trans eF).trans e4, g4, hy2.mono (eF.trans e4)⟩
            | cnt Γ4 s4 => rw [ho] at hy2; exact fun F4 H4 σ4 e4 g4 => ⟨F4, Γ4, s4, (e'.trans eF).trans e4, g4, hy2.mono (eF.trans e4)⟩
            | brk Γ4 s4 => rw [ho] at hy2; exact fun F4 H4 σ4 e4 g4 => hy2 F4 H4 σ4 (eF.trans e4) g4
            | ret d4 s4 => rw [ho] at hy2; exact fun v F4 H4 e4 g4 r4 => hy2 v F4 H4 (eF.trans e4) g4 r4
            | exc c4 f4 Γ4 s4 => rw [ho] at hy2; exact fun od F4 H4 σ4 e4 g4 r4 => hy2 od F4 H4 σ4 (eF.trans e4) g4 r4
        | _ => exact hy.elim
end Dv

set_option Elab.async false
set_option linter.all false
set_option maxRecDepth 100000
/-! # New lists and dicts, and what is changed of them while they are a frame's own -/
namespace Dv
open PySem PySem.Spec PyProof.Rows L2 Evl

theorem Off.fresh {w : Wd} {s : HS} {F H : Hp} {p : Addr} (st : StAt w s F H) (hp : H p = none) : Off w p := by
  unfold StAt at st
  unfold Off
  cases w with
  | none => trivial
  | some q =>
    obtain ⟨ha, ca⟩ := q
    obtain ⟨_, _, _, h4, h5⟩ := st
    exact ⟨(ne_of_none h4 hp).symm, (ne_of_none h5 hp).symm⟩
theorem StAt.frz {w : Wd} {s : HS} {F H : Hp} {p : Addr} {o : HO} (st : StAt w s F H) (hp : Off w p) : StAt w s (upd F p o) H := by
  unfold StAt at st ⊢
  unfold Off at hp
  cases w with
  | none => trivial
  | some q =>
    obtain ⟨ha, ca⟩ := q
    obtain ⟨h1, h2, h3, h4, h5⟩ := st
    exact ⟨h1, by rw [upd_ne hp.1.symm]; exact h2, by rw [upd_ne hp.2.symm]; exact h3, h4, h5⟩
theorem StAt.mut {w : Wd} {s : HS} {F H : Hp} {p : Addr} {o : HO} (st : StAt w s F H) (hp : Off w p) : StAt w s F (upd H p o) := by
  unfold StAt at st ⊢
  unfold Off at hp
  cases w with
  | none => trivial
  | some q =>
    obtain ⟨ha, ca⟩ := q
    obtain ⟨h1, h2, h3, h4, h5⟩ := st
    exact ⟨h1, h2, h3, by rw [upd_ne hp.1.symm]; exact h4, by rw [upd_ne hp.2.symm]; exact h5⟩
/-- a new object is frozen -/
theorem Step.frz {w : Wd} {F H F' H' : Hp} {p : Addr} {o : HO} (a : Step w F H F' H') (hn : H p = none) (h1 : F' p = none) (h2 : H' p = some o) : Step w F H (upd F' p o) H' := by
  refine ⟨a.ff.trans (Ex.new h1), fun x u e => ?_, fun x u hx hf ho => ?_⟩
  · by_cases xp : x = p
    · subst xp; rw [upd_same] at e; cases e; exact h2
    · rw [upd_ne xp] at e; exact a.fh x u e
  · have xp : x ≠ p := ne_of_none hx hn
    rw [upd_ne xp]
    exact a.rest x u hx hf ho

/-- a list, new since H, that is not frozen -/
def NewL (B : Bs) (w : Wd) (H : Hp) (d : D) (v : V) (F' H' : Hp) : Prop := ∃ ds p xs, d = .lst ds ∧ v = .ref p ∧ H p = none ∧ F' p = none ∧ Off w p ∧ H' p = some (.lst xs) ∧ Reps B w F' ds xs
/-- an expression that makes a new list -/
structure XN (B : Bs) where
  te : WX → TE
  ev : Gm → HS → Res
  ok : ∀ {w : Wd} {F H : Hp} {σ : L2.St} {Γ : Gm} {s : HS} (Wx : WX), Ex F H → StAt w s F H → SlsAt B w F H Γ σ → OkP B w F H σ Wx (NewL B w H) (te Wx σ H) (ev Γ s)
def XE.ofN {B : Bs} (q : XN B) : XE B where
  te := q.te
  ev := q.ev
  ok := fun {w F H σ Γ s} Wx e st sl => by
    have h := q.ok Wx e st sl
    cases hr : q.ev Γ s with
    | stuck => trivial
    | exc c fs s' => rw [hr] at h; exact h
    | ret d s' =>
      rw [hr] at h
      exact fun Q k => h Q fun v F' H' a b ⟨ds, p, xs, e1, e2, h1, h2, h3, h4, r⟩ => by
        subst e1 e2
        exact k (.ref p) (upd F' p (.lst xs)) H' (a.frz h1 h2 h4) (b.frz h3) (rep_lst.mpr ⟨p, xs, rfl, upd_same, r.mono (Ex.new h2)⟩)
theorem NewL.mk {B : Bs} {w : Wd} {F0 H0 F H : Hp} {s : HS} {σ : L2.St} {Wx : WX} {xs : List V} {ds : List D} (e0 : Ex F0 H0) (a : Step w F0 H0 F H) (st : StAt w s F H) (r : Reps B w F ds xs) :
    OkP B w F H σ Wx (NewL B w H0) (fun Q => ∀ p, H p = none → Q (.ref p) (upd H p (.lst xs))) (.ret (.lst ds) s) := fun Q q p hp =>
  q (.ref p) F (upd H p (.lst xs)) (Step.newO a.fh hp) (st.newO hp) ⟨ds, p, xs, rfl, rfl, a.fresh e0 st hp, fresh_back a.fh hp, Off.fresh st hp, upd_same, r⟩
/-- [a, b, ..] -/
def XN.lst {B : Bs} (ps : List (XE B)) (hl : ps.length ≤ 100000 := by exact Nat.le_of_ble_eq_true rfl) : XN B where
  te := fun Wx => tLst (tas Wx ps)
  ev := fun Γ s => evs Γ ps s fun ds s1 => .ret (.lst ds) s1
  ok := fun {w F H σ Γ s} Wx e st sl => evs_okP Wx ps (u := fun xs H1 Q => xs.length ≤ sizeLine ∧ ∀ p, H1 p = none → Q (.ref p) (upd H1 p (.lst xs))) e st sl fun ds s1 vs F1 H1 a st1 r hn =>
    OkP.imp (NewL.mk e a st1 r) fun Q q => ⟨sz_of (by rw [r.length, hn]; exact hl), q⟩

/-! ### a frame's own list -/
section
variable {B : Bs} {w : Wd} {Z : Zs} {F H : Hp} {σ : L2.St} {Γ : Gm} {s : HS}
/-- a new object comes to a slot -/
theorem Good.setO {i : Nat} {t : Sl} {p : Addr} (hnio : ∀ c fs, t ≠ .io c fs) (g : Good B w Z F H σ Γ s) (hs : SlAt B w F H t (some (.ref p))) (hz : Z p = none) (hno : ∀ (j : Nat) (u : Sl), Γ[j]? = some u → owned u = true → σ[j]? ≠ some (some (.ref p))) :
    Good B w Z F H (σ.set i (some (.ref p))) (Γ.set i t) s := by
  refine ⟨g.fh, g.st, fun j u e => ?_, g.zz, fun j u q e ho hp => ?_, fun j k u v q e e' ho ho' hp hp' => ?_, by rw [List.length_set, List.length_set, g.ln], fun c fs e => ?_⟩
  · rw [List.getElem?_set] at e
    by_cases hij : i = j
    · subst hij
      rw [if_pos rfl] at e
      by_cases hi : i < Γ.length
      · rw [if_pos hi] at e
        cases e
        exact ⟨some (.ref p), by rw [List.getElem?_set_self (by rw [g.ln]; exact hi)], hs⟩
      · rw [if_neg hi] at e; cases e
    · rw [if_neg hij] at e
      obtain ⟨x, h1, h2⟩ := g.sl j u e
      exact ⟨x, by rw [List.getElem?_set_ne hij]; exact h1, h2⟩
  · by_cases hij : i = j
    · subst hij
      by_cases hi : i < σ.length
      · rw [List.getElem?_set_self hi] at hp; cases hp; exact hz
      · rw [List.getElem?_eq_none (by simp; omega)] at hp; cases hp
    · rw [List.getElem?_set_ne hij] at e hp
      exact g.zo j u q e ho hp
  · by_cases hij : i = j
    · by_cases hik : i = k
      · rw [← hij, hik]
      · exfalso
        subst hij
        rw [List.getElem?_set_ne hik] at e' hp'
        by_cases hi : i < σ.length
        · rw [List.getElem?_set_self hi] at hp; cases hp; exact hno k v e' ho' hp'
        · rw [List.getElem?_eq_none (by simp; omega)] at hp; cases hp
    · by_cases hik : i = k
      · exfalso
        subst hik
        rw [List.getElem?_set_ne hij] at e hp
        by_cases hi : i < σ.length
        · rw [List.getElem?_set_self hi] at hp'; cases hp'; exact hno j u e ho hp
        · rw [List.getElem?_eq_none (by simp; omega)] at hp'; cases hp'
      · rw [List.getElem?_set_ne hij] at e hp
        rw [List.getElem?_set_ne hik] at e' hp'
        exact g.ow j k u v q e e' ho ho' hp hp'
  · by_cases hi : i = 0
    · subst hi
      rw [List.getElem?_set, if_pos rfl] at e
      split at e
      · cases e; exact absurd rfl (hnio c fs)
      · cases e
    · rw [List.getElem?_set_ne hi] at e ⊢
      exact g.me c fs e
/-- owned objects are old -/
theorem Good.old {p : Addr} (g : Good B w Z F H σ Γ s) (hp : H p = none) (j : Nat) (u : Sl) (e : Γ[j]? = some u) (ho : owned u = true) : σ[j]? ≠ some (some (.ref p)) := fun h => by
  obtain ⟨x, h1, h2⟩ := g.sl j u e
  rw [h] at h1
  cases h1
  cases u with
  | no => cases ho
  | fr _ => cases ho
  | lo ds => obtain ⟨q, xs, e1, _, _, h3, _⟩ := h2; cases e1; rw [hp] at h3; cases h3
  | dco ds => obtain ⟨q, xs, e1, _, _, h3, _⟩ := h2; cases e1; rw [hp] at h3; cases h3
  | io c fs => obtain ⟨q, dx, xs, e1, _, _, h3, _⟩ := h2; cases e1; rw [hp] at h3; cases h3
/-- the own object of slot i changes -/
theorem Good.upd {i : Nat} {t t' : Sl} {p : Addr} {o : HO} (hio : ∀ c fs, t' = .io c fs → ∃ c' fs', t = .io c' fs') (g : Good B w Z F H σ Γ s) (hi : Γ[i]? = some t) (ht : owned t = true) (hp : σ[i]? = some (some (.ref p))) (hF : F p = none) (ho : Off w p) (hs : SlAt B w F (upd H p o) t' (some (.ref p))) :
    Good B w Z F (L2.upd H p o) σ (Γ.set i t') s := by
  have hZ := g.zo i t p hi ht hp
  refine ⟨Ex.mut g.fh hF, g.st.mut ho, fun j u e => ?_, fun a u hz => ?_, fun j u q e hu hq => ?_, fun j k u v q e e' hu hv hq hq' => ?_, by rw [List.length_set, g.ln], fun c fs e => ?_⟩
  · rw [List.getElem?_set] at e
    by_cases hij : i = j
    · subst hij
      rw [if_pos rfl] at e
      split at e
      · cases e; exact ⟨_, hp, hs⟩
      · cases e
    · rw [if_neg hij] at e
      obtain ⟨x, h1, h2⟩ := g.sl j u e
      refine ⟨x, h1, ?_⟩
      cases u with
      | no => trivial
      | fr d => exact h2
      | lo ds =>
        obtain ⟨q, xs, e1, e2, e3, e4, e5⟩ := h2
        subst e1
        have hne : q ≠ p := fun z => by subst z; exact hij (g.ow i j t _ q hi e ht rfl hp h1)
        exact ⟨q, xs, rfl, e2, e3, by rw [upd_ne hne]; exact e4, e5⟩
      | dco ds =>
        obtain ⟨q, xs, e1, e2, e3, e4, e5⟩ := h2
        subst e1
        have hne : q ≠ p := fun z => by subst z; exact hij (g.ow i j t _ q hi e ht rfl hp h1)
        exact ⟨q, xs, rfl, e2, e3, by rw [upd_ne hne]; exact e4, e5⟩
      | io c fs =>
        obtain ⟨q, dx, xs, e1, e2, e3, e4, e5⟩ := h2
        subst e1
        have hne : q ≠ p := fun z => by subst z; exact hij (g.ow i j t _ q hi e ht rfl hp h1)
        exact ⟨q, dx, xs, rfl, e2, e3, by rw [upd_ne hne]; exact e4, e5⟩
  · obtain ⟨h1, h2, h3⟩ := g.zz a u hz
    have hne : a ≠ p := fun z => by subst z; rw [hZ] at hz; cases hz
    exact ⟨h1, by rw [upd_ne hne]; exact h2, h3⟩
  · by_cases hij : i = j
    · subst hij
      rw [hp] at hq; cases hq; exact hZ
    · rw [List.getElem?_set_ne hij] at e
      exact g.zo j u q e hu hq
  · have fix : ∀ {m : Nat} {x : Sl}, (Γ.set i t')[m]? = some x → owned x = true → ∃ y, Γ[m]? = some y ∧ owned y = true := fun {m x} e hx => by
      by_cases him : i = m
      · subst him; exact ⟨t, hi, ht⟩
      · rw [List.getElem?_set_ne him] at e; exact ⟨x, e, hx⟩
    obtain ⟨y1, a1, b1⟩ := fix e hu
    obtain ⟨y2, a2, b2⟩ := fix e' hv
    exact g.ow j k y1 y2 q a1 a2 b1 b2 hq hq'
  · by_cases hz : i = 0
    · subst hz
      rw [List.getElem?_set, if_pos rfl] at e
      split at e
      · obtain ⟨c', fs', rfl⟩ := hio c fs (Option.some.inj e)
        exact g.me c' fs' hi
      · cases e
    · rw [List.getElem?_set_ne hz] at e
      exact g.me c fs e
/-- slot i is frozen -/
def frzS : Sl → Sl
  | .lo ds => .fr (.lst ds)
  | .dco ds => .fr (.dic false ds)
  | .io c fs => .fr (.ins c fs)
  | t => t
def frzG (Γ : Gm) (i : Nat) : Gm := match Γ[i]? with
  | some t => Γ.set i (frzS t)
  | none => Γ
theorem set_self {α : Type} : ∀ {l : List α} {i : Nat} {x : α}, l[i]? = some x → l.set i x = l
  | [], _, _, h => by simp at h
  | a :: l, 0, x, h => by simp at h; subst h; rfl
  | a :: l, i + 1, x, h => by
    have h' : l[i]? = some x := by simpa using h
    show a :: l.set i x = a :: l
    rw [set_self h']
theorem Good.frz (g : Good B w Z F H σ Γ s) (i : Nat) : ∃ F', Ex F F' ∧ Good B w Z F' H σ (frzG Γ i) s := by
  unfold frzG
  cases hi : Γ[i]? with
  | none => exact ⟨F, Ex.refl F, g⟩
  | some t =>
    show ∃ F', Ex F F' ∧ Good B w Z F' H σ (Γ.set i (frzS t)) s
    by_cases ht : owned t = true
    · obtain ⟨x, h1, h2⟩ := g.sl i t hi
      obtain ⟨p, o, rfl, hF, hO, hH⟩ : ∃ p o, x = some (.ref p) ∧ F p = none ∧ Off w p ∧ H p = some o := by
        cases t with
        | no => cases ht
        | fr _ => cases ht
        | lo ds => obtain ⟨q, xs, e1, e2, e3, e4, _⟩ := h2; exact ⟨q, _, e1, e2, e3, e4⟩
        | dco ds => obtain ⟨q, xs, e1, e2, e3, e4, _⟩ := h2; exact ⟨q, _, e1, e2, e3, e4⟩
        | io c fs => obtain ⟨q, dx, xs, e1, e2, e3, e4, _⟩ := h2; exact ⟨q, _, e1, e2, e3, e4⟩
      have hZ := g.zo i t p hi ht h1
      have ex : Ex F (L2.upd F p o) := Ex.new hF
      refine ⟨L2.upd F p o, ex, ⟨fun a u e => ?_, g.st.frz hO, fun j u e => ?_, fun a u hz => ?_, fun j u q e hu hq => ?_, fun j k u v q e e' hu hv hq hq' => ?_, by rw [List.length_set, g.ln], fun c fs e => ?_⟩⟩
      · by_cases ap : a = p
        · subst ap; rw [upd_same] at e; cases e; exact hH
        · rw [upd_ne ap] at e; exact g.fh a u e
      · rw [List.getElem?_set] at e
        by_cases hij : i = j
        · subst hij
          rw [if_pos rfl] at e
          split at e
          · cases e
            refine ⟨_, h1, ?_⟩
            cases t with
            | no => cases ht
            | fr _ => cases ht
            | lo ds =>
              obtain ⟨q, xs, e1, e2, e3, e4, e5⟩ := h2
              cases e1
              rw [e4] at hH; cases hH
              exact ⟨_, rfl, rep_lst.mpr ⟨p, xs, rfl, upd_same, e5.mono ex⟩⟩
            | dco ds =>
              obtain ⟨q, xs, e1, e2, e3, e4, e5⟩ := h2
              cases e1
              rw [e4] at hH; cases hH
              exact ⟨_, rfl, rep_dic.mpr ⟨p, xs, rfl, .inl upd_same, e5.mono ex⟩⟩
            | io c fs =>
              obtain ⟨q, dx, xs, e1, e2, e3, e4, e5⟩ := h2
              cases e1
              rw [e4] at hH; cases hH
              exact ⟨_, rfl, rep_ins.mpr ⟨p, dx, xs, rfl, upd_same, e5.mono ex⟩⟩
          · cases e
        · rw [if_neg hij] at e
          obtain ⟨y, k1, k2⟩ := g.sl j u e
          refine ⟨y, k1, ?_⟩
          cases u with
          | no => trivial
          | fr d => obtain ⟨v, e1, r⟩ := k2; exact ⟨v, e1, r.mono ex⟩
          | lo ds =>
            obtain ⟨q, xs, e1, e2, e3, e4, e5⟩ := k2
            subst e1
            have hne : q ≠ p := fun z => by subst z; exact hij (g.ow i j t _ q hi e ht rfl h1 k1)
            exact ⟨q, xs, rfl, by rw [upd_ne hne]; exact e2, e3, e4, e5.mono ex⟩
          | dco ds =>
            obtain ⟨q, xs, e1, e2, e3, e4, e5⟩ := k2
            subst e1
            have hne : q ≠ p := fun z => by subst z; exact hij (g.ow i j t _ q hi e ht rfl h1 k1)
            exact ⟨q, xs, rfl, by rw [upd_ne hne]; exact e2, e3, e4, e5.mono ex⟩
          | io c fs =>
            obtain ⟨q, dx, xs, e1, e2, e3, e4, e5⟩ := k2
            subst e1
            have hne : q ≠ p := fun z => by subst z; exact hij (g.ow i j t _ q hi e ht rfl h1 k1)
            exact ⟨q, dx, xs, rfl, by rw [upd_ne hne]; exact e2, e3, e4, e5.mono ex⟩
      · obtain ⟨k1, k2, k3⟩ := g.zz a u hz
        have hne : a ≠ p := fun z => by subst z; rw [hZ] at hz; cases hz
        exact ⟨by rw [upd_ne hne]; exact k1, k2, k3⟩
      · by_cases hij : i = j
        · subst hij
          rw [List.getElem?_set, if_pos rfl] at e
          split at e
          · cases e; cases t <;> first | cases hu | cases ht
          · cases e
        · rw [List.getElem?_set_ne hij] at e
          exact g.zo j u q e hu hq
      · have fix : ∀ {m : Nat} {x : Sl}, (Γ.set i (frzS t))[m]? = some x → owned x = true → Γ[m]? = some x := fun {m x} e hx => by
          by_cases him : i = m
          · subst him
            rw [List.getElem?_set, if_pos rfl] at e
            split at e
            · cases e; cases t <;> first | cases hx | cases ht
            · cases e
          · rw [List.getElem?_set_ne him] at e; exact e
        exact g.ow j k u v q (fix e hu) (fix e' hv) hu hv hq hq'
      · by_cases hz : i = 0
        · subst hz
          rw [List.getElem?_set, if_pos rfl] at e
          split at e
          · cases t <;> first | (cases e; done) | cases ht
          · cases e
        · rw [List.getElem?_set_ne hz] at e
          exact g.me c fs e
    · have e : frzS t = t := by cases t <;> first | rfl | exact absurd rfl ht
      rw [e, set_self hi]
      exact ⟨F, Ex.refl F, g⟩
end
/-- from here on slot i is no more changed -/
def XS.frz {B : Bs} (i : Nat) (p : XS B) : XS B where
  ts := p.ts
  ev := fun Γ s => p.ev (frzG Γ i) s
  ok := fun {w Z F H σ Γ s} Wx D' g => by
    obtain ⟨F', e, g'⟩ := g.frz i
    exact (p.ok Wx D' g').back e
/-- x = a new list, that is changed later -/
def XS.setN {B : Bs} (i : Nat) (q : XN B) : XS B where
  ts := fun Wx => tAsg (q.te Wx) (gName i)
  ev := fun Γ s => (q.ev Γ s).outL Γ fun ds s1 => .nxt (Γ.set i (.lo ds)) s1
  ok := fun {w Z F H σ Γ s} Wx D' g => by
    have h := q.ok Wx g.fh g.st g.sl
    cases hr : q.ev Γ s with
    | stuck => trivial
    | exc c fs s' =>
      rw [hr] at h
      exact fun hx => h (fun od F' H' a b c => hx od F' H' σ a.ff (g.step a b) c) _
    | ret d s1 =>
      rw [hr] at h
      cases d with
      | lst ds =>
        refine fun k => h _ fun v F' H' a b ⟨ds', p, xs, e1, e2, h1, h2, h3, h4, r⟩ => ?_
        cases e1
        subst e2
        refine k F' H' _ a.ff ?_
        have g1 := g.step a b
        refine g1.setO (fun _ _ z => nomatch z) ⟨p, xs, rfl, h2, h3, h4, r⟩ ?_ fun j u e ho hp => g.old h1 j u e ho hp
        cases hz : Z p with
        | none => rfl
        | some o => rw [(g.zz p o hz).2.1] at h1; cases h1
      | _ => trivial
/-- x.append(e) -/
def XS.app {B : Bs} (i : Nat) (p : XE B) : XS B where
  ts := fun Wx => tDrop (tBM B.K "list" rAppend (tVar i) (tCons (p.te Wx) tNil))
  ev := fun Γ s => match Γ[i]? with
    | some (.lo ds) => if ds.length < 100000 then (p.ev Γ s).out Γ fun d s1 => .nxt (Γ.set i (.lo (ds ++ [d]))) s1 else .stuck
    | _ => .stuck
  ok := fun {w Z F H σ Γ s} Wx D' g => by
    cases hi : Γ[i]? with
    | none => trivial
    | some t =>
      cases t with
      | lo ds =>
        show OkS B w Z F Wx D' _ (if ds.length < 100000 then (p.ev Γ s).out Γ fun d s1 => .nxt (Γ.set i (.lo (ds ++ [d]))) s1 else .stuck)
        by_cases hl : ds.length < 100000
        · rw [if_pos hl]
          obtain ⟨x, h1, q, xs, e1, e2, e3, e4, e5⟩ := g.sl i _ hi
          subst e1
          refine OkS.imp (OkE.stm (D' := D') (u := fun v H2 => rAppend (.ref q) [v] H2 fun _ H1 => D'.nx σ H1) (k := fun d s1 => .nxt (Γ.set i (.lo (ds ++ [d]))) s1) g (p.ok Wx g.fh g.st g.sl) fun d s1 v F1 H1 _ a g1 r => ?_) fun z => ⟨.ref q, h1, .inl ⟨rfl, xs, sq_of e4⟩, z⟩
          obtain ⟨k1, k2⟩ := a.rest q _ e4 e2 e3
          exact fun k => ⟨q, xs, v, rfl, rfl, k2, sz_lt (by rw [e5.length]; exact hl), k F1 _ σ (Ex.refl F1) (g1.upd (fun _ _ z => nomatch z) hi rfl h1 k1 e3 ⟨q, xs ++ [v], rfl, k1, e3, upd_same, (e5.mono a.ff).snoc r⟩)⟩
        · rw [if_neg hl]; trivial
      | _ => trivial
/-- x.pop(e), its value dropped -/
def popAtD (ds : List D) (i : Int) : Option (List D) := match seqIndex? i ds.length with
  | some k => if -(2 ^ 63) ≤ i ∧ i < 2 ^ 63 ∧ k < ds.length then some (ds.eraseIdx k) else none
  | none => none
theorem Reps.erase {B : Bs} {w : Wd} {F : Hp} : ∀ {ds : List D} {vs : List V} (k : Nat), Reps B w F ds vs → Reps B w F (ds.eraseIdx k) (vs.eraseIdx k)
  | [], _, k, h => by rw [reps_nil.mp h]; exact reps_nil.mpr rfl
  | d :: ds, _, 0, h => by
    obtain ⟨v, r, rfl, _, h2⟩ := reps_cons.mp h
    exact h2
  | d :: ds, _, k + 1, h => by
    obtain ⟨v, r, rfl, h1, h2⟩ := reps_cons.mp h
    exact reps_cons.mpr ⟨v, r.eraseIdx k, rfl, h1, Reps.erase k h2⟩
def XS.popAt {B : Bs} (i : Nat) (p : XE B) : XS B where
  ts := fun Wx => tDrop (tBM B.K "list" rPopAt (tVar i) (tCons (p.te Wx) tNil))
  ev := fun Γ s => match Γ[i]? with
    | some (.lo ds) => (p.ev Γ s).out Γ fun d s1 => match d with
      | .int k => match popAtD ds k with
        | some ds' => .nxt (Γ.set i (.lo ds')) s1
        | none => .stuck
      | _ => .stuck
    | _ => .stuck
  ok := fun {w Z F H σ Γ s} Wx D' g => by
    cases hi : Γ[i]? with
    | none => trivial
    | some t =>
      cases t with
      | lo ds =>
        obtain ⟨x, h1, q, xs, e1, e2, e3, e4, e5⟩ := g.sl i _ hi
        subst e1
        refine OkS.imp (OkE.stm (D' := D') (u := fun v H2 => rPopAt (.ref q) [v] H2 fun _ H1 => D'.nx σ H1) (k := fun d s1 => match d with
          | .int k => match popAtD ds k with
            | some ds' => .nxt (Γ.set i (.lo ds')) s1
            | none => .stuck
          | _ => .stuck) g (p.ok Wx g.fh g.st g.sl) fun d s1 v F1 H1 _ a g1 r => ?_) fun z => ⟨.ref q, h1, .inl ⟨rfl, xs, sq_of e4⟩, z⟩
        cases d with
        | int k =>
          cases rep_int.mp r
          show OkS B w Z F1 Wx D' _ (match popAtD ds k with
            | some ds' => .nxt (Γ.set i (.lo ds')) s1
            | none => .stuck)
          cases hp : popAtD ds k with
          | none => trivial
          | some ds' =>
            unfold popAtD at hp
            cases hk : seqIndex? k ds.length with
            | none => rw [hk] at hp; cases hp
            | some j =>
              have hp' : (if -(2 ^ 63) ≤ k ∧ k < 2 ^ 63 ∧ j < ds.length then some (ds.eraseIdx j) else none) = some ds' := by rw [hk] at hp; exact hp
              by_cases hc : -(2 ^ 63) ≤ k ∧ k < 2 ^ 63 ∧ j < ds.length
              · rw [if_pos hc] at hp'
                cases hp'
                obtain ⟨k1, k2⟩ := a.rest q _ e4 e2 e3
                have hl := e5.length
                exact fun kk => ⟨q, xs, k, j, xs[j]'(by omega), rfl, rfl, k2, hc.1, hc.2.1, by rw [hl]; exact hk, List.getElem?_eq_getElem (by omega), kk F1 _ σ (Ex.refl F1) (g1.upd (fun _ _ z => nomatch z) hi rfl h1 k1 e3 ⟨q, xs.eraseIdx j, rfl, k1, e3, upd_same, (e5.mono a.ff).erase j⟩)⟩
              · rw [if_neg hc] at hp'; cases hp'
        | _ => trivial
      | _ => trivial

/-! ### a look at all own objects as if they were frozen -/
def frzA (Γ : Gm) : Gm := Γ.map frzS
open Classical in
noncomputable def Fv (Γ : Gm) (σ : L2.St) (F H : Hp) : Hp := fun a => if ∃ (i : Nat) (t : Sl), Γ[i]? = some t ∧ owned t = true ∧ σ[i]? = some (some (.ref a)) then H a else F a
section
variable {B : Bs} {w : Wd} {F H : Hp} {σ : L2.St} {Γ : Gm} {s : HS}
theorem own_at (sl : SlsAt B w F H Γ σ) {i : Nat} {t : Sl} {a : Addr} (h1 : Γ[i]? = some t) (h2 : owned t = true) (h3 : σ[i]? = some (some (.ref a))) : F a = none ∧ Off w a ∧ ∃ o, H a = some o := by
  obtain ⟨x, k1, k2⟩ := sl i t h1
  rw [h3] at k1
  cases k1
  cases t with
  | no => cases h2
  | fr _ => cases h2
  | lo ds => obtain ⟨q, xs, e1, e2, e3, e4, _⟩ := k2; cases e1; exact ⟨e2, e3, _, e4⟩
  | dco ds => obtain ⟨q, xs, e1, e2, e3, e4, _⟩ := k2; cases e1; exact ⟨e2, e3, _, e4⟩
  | io c fs => obtain ⟨q, dx, xs, e1, e2, e3, e4, _⟩ := k2; cases e1; exact ⟨e2, e3, _, e4⟩
theorem Fv.up (sl : SlsAt B w F H Γ σ) : Ex F (Fv Γ σ F H) := fun a o e => by
  unfold Fv
  split
  · rename_i h
    obtain ⟨i, t, h1, h2, h3⟩ := h
    rw [(own_at sl h1 h2 h3).1] at e; cases e
  · exact e
theorem Fv.down (e : Ex F H) : Ex (Fv Γ σ F H) H := fun a o h => by
  unfold Fv at h
  split at h
  · exact h
  · exact e a o h
theorem Fv.st (st : StAt w s F H) (sl : SlsAt B w F H Γ σ) : StAt w s (Fv Γ σ F H) H := by
  have hoff : ∀ {a : Addr}, ¬ Off w a → Fv Γ σ F H a = F a := fun {a} ha => by
    unfold Fv
    rw [if_neg]
    rintro ⟨i, t, h1, h2, h3⟩
    exact ha (own_at sl h1 h2 h3).2.1
  unfold StAt at st ⊢
  cases w with
  | none => trivial
  | some q =>
    obtain ⟨ha, ca⟩ := q
    obtain ⟨h1, h2, h3, h4, h5⟩ := st
    refine ⟨h1, ?_, ?_, h4, h5⟩
    · rw [hoff (fun z => z.1 rfl)]; exact h2
    · rw [hoff (fun z => z.2 rfl)]; exact h3
theorem Fv.sl (sl : SlsAt B w F H Γ σ) : SlsAt B w (Fv Γ σ F H) H (frzA Γ) σ := fun i t e => by
  unfold frzA at e
  rw [List.getElem?_map] at e
  cases hi : Γ[i]? with
  | none => rw [hi] at e; cases e
  | some u =>
    rw [hi] at e
    cases e
    obtain ⟨x, h1, h2⟩ := sl i u hi
    refine ⟨x, h1, ?_⟩
    have up := Fv.up sl
    have at_ : ∀ {a : Addr}, owned u = true → x = some (.ref a) → Fv Γ σ F H a = H a := fun {a} ho hx => by
      unfold Fv
      rw [if_pos ⟨i, u, hi, ho, by rw [h1, hx]⟩]
    cases u with
    | no => trivial
    | fr d => obtain ⟨v, e1, r⟩ := h2; exact ⟨v, e1, r.mono up⟩
    | lo ds =>
      obtain ⟨q, xs, e1, e2, e3, e4, e5⟩ := h2
      exact ⟨_, e1, rep_lst.mpr ⟨q, xs, rfl, by rw [at_ rfl e1]; exact e4, e5.mono up⟩⟩
    | dco ds =>
      obtain ⟨q, xs, e1, e2, e3, e4, e5⟩ := h2
      exact ⟨_, e1, rep_dic.mpr ⟨q, xs, rfl, .inl (by rw [at_ rfl e1]; exact e4), e5.mono up⟩⟩
    | io c fs =>
      obtain ⟨q, dx, xs, e1, e2, e3, e4, e5⟩ := h2
      exact ⟨_, e1, rep_ins.mpr ⟨q, dx, xs, rfl, by rw [at_ rfl e1]; exact e4, e5.mono up⟩⟩
/-- back from the look: what stood stands -/
theorem Fv.back {F' H' : Hp} {s' : HS} (e : Ex F H) (st : StAt w s F H) (sl : SlsAt B w F H Γ σ) (a : Step w (Fv Γ σ F H) H F' H') (st' : StAt w s' F' H') : Step w F H F H' ∧ StAt w s' F H' := by
  have up := Fv.up sl
  refine ⟨⟨Ex.refl F, fun x o h => a.fh x o (a.ff x o (up x o h)), fun x o h1 h2 h3 => ⟨h2, ?_⟩⟩, ?_⟩
  · cases hv : Fv Γ σ F H x with
    | none => exact (a.rest x o h1 hv h3).2
    | some u =>
      have := Fv.down e x u hv
      rw [h1] at this
      cases this
      exact a.fh x _ (a.ff x _ hv)
  · unfold StAt at st st' ⊢
    cases w with
    | none => trivial
    | some q =>
      obtain ⟨ha, ca⟩ := q
      exact ⟨st.1, st.2.1, st.2.2.1, st'.2.2.2.1, st'.2.2.2.2⟩
end
def XT.view {B : Bs} (p : XT B) : XT B where
  tt := p.tt
  ev := fun Γ s => match p.ev (frzA Γ) s with
    | .ret (.bl b) s1 => .ret (.bl b) s1
    | _ => .stuck
  ok := fun {w F H σ Γ s} Wx e st sl => by
    have h := p.ok Wx (Fv.down e) (Fv.st st sl) (Fv.sl sl)
    cases hr : p.ev (frzA Γ) s with
    | ret d s1 =>
      rw [hr] at h
      cases d with
      | bl b => exact fun Q q => h Q fun F' H' a b' => let ⟨k1, k2⟩ := Fv.back e st sl a b'; q F H' k1 k2
      | _ => trivial
    | _ => trivial
def scal : D → Bool
  | .non => true
  | .bl _ => true
  | .int _ => true
  | .str _ => true
  | _ => false
theorem scal_rep {B : Bs} {w : Wd} {F F' : Hp} : ∀ {d : D} {v : V}, scal d = true → Rep B w F d v → Rep B w F' d v
  | .non, _, _, r => rep_non.mpr (rep_non.mp r)
  | .bl _, _, _, r => rep_bl.mpr (rep_bl.mp r)
  | .int _, _, _, r => rep_int.mpr (rep_int.mp r)
  | .str _, _, _, r => rep_str.mpr (rep_str.mp r)
/-- an expression whose value is no object -/
def XE.view {B : Bs} (p : XE B) : XE B where
  te := p.te
  ev := fun Γ s => match p.ev (frzA Γ) s with
    | .ret d s1 => if scal d = true then .ret d s1 else .stuck
    | _ => .stuck
  ok := fun {w F H σ Γ s} Wx e st sl => by
    have h := p.ok Wx (Fv.down e) (Fv.st st sl) (Fv.sl sl)
    cases hr : p.ev (frzA Γ) s with
    | ret d s1 =>
      rw [hr] at h
      show OkE B w F H σ Wx _ (if scal d = true then .ret d s1 else .stuck)
      by_cases hd : scal d = true
      · rw [if_pos hd]
        exact fun Q q => h Q fun v F' H' a b' r => let ⟨k1, k2⟩ := Fv.back e st sl a b'; q v F H' k1 k2 (scal_rep hd r)
      · rw [if_neg hd]; trivial
    | _ => trivial
end Dv

set_option Elab.async false
set_option linter.all false
set_option maxRecDepth 100000
/-! # List comprehensions -/
namespace Dv
open PySem PySem.Spec PyProof.Rows L2 Evl

def wipeG (Γ : Gm) : List Nat → Gm
  | [] => Γ
  | v :: vs => (wipeG Γ vs).set v .no
theorem SlsAt.put {B : Bs} {w : Wd} {F H : Hp} {Γ : Gm} {σ : L2.St} {i : Nat} {t : Sl} {v : Option V} (h : SlsAt B w F H Γ σ) (hs : SlAt B w F H t v) : SlsAt B w F H (Γ.set i t) (σ.set i v) := fun j u e => by
  rw [List.getElem?_set] at e
  by_cases hij : i = j
  · subst hij
    rw [if_pos rfl] at e
    by_cases hi : i < Γ.length
    · rw [if_pos hi] at e
      cases e
      obtain ⟨x, h1, _⟩ := h i _ (List.getElem?_eq_getElem hi)
      exact ⟨v, by rw [List.getElem?_set_self (List.getElem?_eq_some_iff.mp h1).1], hs⟩
    · rw [if_neg hi] at e; cases e
  · rw [if_neg hij] at e
    obtain ⟨x, h1, h2⟩ := h j u e
    exact ⟨x, by rw [List.getElem?_set_ne hij]; exact h1, h2⟩
theorem SlsAt.wiped {B : Bs} {w : Wd} {F H : Hp} {Γ : Gm} {σ : L2.St} (h : SlsAt B w F H Γ σ) : ∀ vs : List Nat, SlsAt B w F H (wipeG Γ vs) (wipe σ vs)
  | [] => h
  | v :: vs => (SlsAt.wiped h vs).put (t := .no) (v := none) trivial
theorem SlsAt.sets {B : Bs} {w : Wd} {F H : Hp} : ∀ {l : List (Nat × D)} {l' : List (Nat × V)} {Γ : Gm} {σ : L2.St}, SlsAt B w F H Γ σ → Asg B w F l l' → SlsAt B w F H (setGm Γ l) (setSt σ l')
  | _, _, _, _, h, .nil => h
  | _, _, Γ, σ, h, .cons (a := a) (b := b) r t => by
    obtain ⟨i, d⟩ := a
    obtain ⟨j, v⟩ := b
    obtain ⟨e, r⟩ := r
    cases e
    have z := SlsAt.sets (Γ := Γ.set i (.fr d)) (σ := σ.set i (some v)) (h.put ⟨v, rfl, r⟩) t
    exact z
theorem wipe_set {σ : L2.St} {i : Nat} {v : Option V} : ∀ {vs : List Nat}, i ∈ vs → wipe (σ.set i v) vs = wipe σ vs
  | [], h => by cases h
  | u :: vs, h => by
    unfold wipe
    by_cases hu : i ∈ vs
    · rw [wipe_set hu]
    · have e : i = u := by
        rcases List.mem_cons.mp h with e | e
        · exact e
        · exact absurd e hu
      subst e
      have c : ∀ (ws : List Nat), i ∉ ws → wipe (σ.set i v) ws = (wipe σ ws).set i v := fun ws => by
        induction ws with
        | nil => intro _; rfl
        | cons x ws ih =>
          intro hx
          have h1 : i ≠ x := fun z => hx (by rw [z]; exact List.mem_cons_self)
          have h2 : i ∉ ws := fun z => hx (List.mem_cons_of_mem _ z)
          unfold wipe
          rw [ih h2, List.set_comm _ _ h1]
      rw [c vs hu, List.set_set]
theorem wipe_idem {σ : L2.St} : ∀ (vs us : List Nat), (∀ i ∈ us, i ∈ vs) → wipe (wipe σ us) vs = wipe σ vs
  | vs, [], _ => rfl
  | vs, u :: us, h => by
    show wipe ((wipe σ us).set u none) vs = _
    rw [wipe_set (h u List.mem_cons_self)]
    exact wipe_idem vs us fun i hi => h i (List.mem_cons_of_mem _ hi)
theorem wipe_sets {vs : List Nat} : ∀ {l : List (Nat × V)} {σ : L2.St}, (∀ p ∈ l, p.1 ∈ vs) → wipe (setSt σ l) vs = wipe σ vs
  | [], _, _ => rfl
  | (i, v) :: l, σ, h => by
    show wipe (setSt (σ.set i (some v)) l) vs = _
    rw [wipe_sets fun p hp => h p (List.mem_cons_of_mem _ hp), wipe_set (h (i, v) List.mem_cons_self)]
theorem Asg.fst {B : Bs} {w : Wd} {F : Hp} {P : Nat → Prop} : ∀ {l : List (Nat × D)} {l' : List (Nat × V)}, Asg B w F l l' → (∀ p ∈ l, P p.1) → ∀ p ∈ l', P p.1
  | _, _, .nil, _ => fun p hp => by cases hp
  | _, _, .cons (a := a) (b := b) r t, h => fun p hp => by
    rcases List.mem_cons.mp hp with e | e
    · subst e; rw [← r.1]; exact h a List.mem_cons_self
    · exact Asg.fst t (fun q hq => h q (List.mem_cons_of_mem _ hq)) p e

/-- a comprehension's items: what is kept of them, and the state behind -/
def lcL (as : D → Option (List (Nat × D))) (t : Gm → HS → Res) (e : Gm → HS → Res) (vs : List Nat) (Γ : Gm) : List D → HS → Option (List D × HS)
  | [], s => some ([], s)
  | d :: ds, s => match as d with
    | none => none
    | some l => if l.all (fun p => vs.contains p.1) = true then (match t (setGm Γ l) s with
      | .ret (.bl true) s1 => (match e (setGm Γ l) s1 with
        | .ret z s2 => (match lcL as t e vs Γ ds s2 with
          | some (zs, s3) => some (z :: zs, s3)
          | none => none)
        | _ => none)
      | .ret (.bl false) s1 => lcL as t e vs Γ ds s1
      | _ => none) else none
def W0 : WX := fun _ _ _ _ => False
def Res.bindL (r : Res) (k : List D → HS → Res) : Res := match r with
  | .ret (.lst ds) s => k ds s
  | .exc c fs s => .exc c fs s
  | _ => .stuck
def lcK (o : Option (List D × HS)) : Res := match o with
  | some (zs, s) => .ret (.lst zs) s
  | none => .stuck
/-- [e for g in it if t] -/
def XN.lc {B : Bs} (it : XI B) (g : XG B) (t : XT B) (e : XE B) (vs : List Nat) : XN B where
  te := fun Wx => tLc (it.ti Wx) g.tg (t.tt W0) (e.te W0) vs
  ev := fun Γ s => (it.ev Γ s).bindL fun ds s1 => if ds.length ≤ 100000 then lcK (lcL g.as t.ev e.ev vs (wipeG Γ vs) ds s1) else .stuck
  ok := fun {w F H σ Γ s} Wx ex st sl => by
    have h := it.ok Wx ex st sl
    cases hr : it.ev Γ s with
    | stuck => trivial
    | exc c fs s' => rw [hr] at h; exact fun hx Q => h hx _
    | ret d s1 =>
      rw [hr] at h
      cases d with
      | lst ds =>
        show OkP B w F H σ Wx (NewL B w H) _ (if ds.length ≤ 100000 then lcK (lcL g.as t.ev e.ev vs (wipeG Γ vs) ds s1) else .stuck)
        by_cases hl : ds.length ≤ 100000
        · rw [if_pos hl]
          cases hk : lcL g.as t.ev e.ev vs (wipeG Γ vs) ds s1 with
          | none => trivial
          | some zs =>
            obtain ⟨zs, sE⟩ := zs
            intro Q q
            refine h _ fun J F1 H1 a st1 yl Dl hD => ?_
            have hD0 : H Dl = none := a.fresh ex st1 hD
            refine ⟨fun i m H' => ∃ F' s' xs ys rest, Step w F1 H1 F' H' ∧ StAt w s' F' H' ∧ F' Dl = none ∧ H' Dl = some (.lst xs) ∧ Reps B w F' ys xs ∧ ys.length ≤ i ∧ i ≤ ds.length ∧ m = ds.length - i ∧ lcL g.as t.ev e.ev vs (wipeG Γ vs) (ds.drop i) s' = some (rest, sE) ∧ zs = ys ++ rest,
              ⟨ds.length, F1, s1, [], [], zs, Step.newO a.fh hD, st1.newO hD, fresh_back a.fh hD, upd_same, reps_nil.mpr rfl, Nat.le_refl _, Nat.zero_le _, by simp, by rw [List.drop_zero]; exact hk, rfl⟩, ?_⟩
            have step0 : Step w F H F1 H1 := a
            rintro i m H' ⟨F', s', xs, ys, rest, b, st', hF, hH, rp, hyl, hi, rfl, hrest, hz⟩
            have hOff : Off w Dl := Off.fresh st1 hD
            obtain ⟨y1, y2⟩ := yl F' H' b.ff b.fh
            by_cases hlt : i < ds.length
            · rw [drop_at hlt] at hrest
              obtain ⟨go, yi⟩ := y1 i ds[i] (List.getElem?_eq_getElem hlt)
              unfold lcL at hrest
              cases has : g.as ds[i] with
              | none => rw [has] at hrest; cases hrest
              | some l =>
                have hr2 : (if l.all (fun p => vs.contains p.1) = true then (match t.ev (setGm (wipeG Γ vs) l) s' with
                    | .ret (.bl true) s1 => (match e.ev (setGm (wipeG Γ vs) l) s1 with
                      | .ret z s2 => (match lcL g.as t.ev e.ev vs (wipeG Γ vs) (ds.drop (i + 1)) s2 with
                        | some (zs, s3) => some (z :: zs, s3)
                        | none => none)
                      | _ => none)
                    | .ret (.bl false) s1 => lcL g.as t.ev e.ev vs (wipeG Γ vs) (ds.drop (i + 1)) s1
                    | _ => none) else none) = some (rest, sE) := by rw [has] at hrest; exact hrest
                by_cases hvs : l.all (fun p => vs.contains p.1) = true
                · rw [if_pos hvs] at hr2
                  refine .inr ⟨go, fun H2 => ∃ F2 s2 xs ys rest, Step w F1 H1 F2 H2 ∧ StAt w s2 F2 H2 ∧ F2 Dl = none ∧ H2 Dl = some (.lst xs) ∧ Reps B w F2 ys xs ∧ ys.length ≤ i + 1 ∧ lcL g.as t.ev e.ev vs (wipeG Γ vs) (ds.drop (i + 1)) s2 = some (rest, sE) ∧ zs = ys ++ rest,
                    fun H2 ⟨F2, s2, xs, ys, rest, z1, z2, z3, z4, z5, z6, z7, z8⟩ => ⟨ds.length - (i + 1), by omega, F2, s2, xs, ys, rest, z1, z2, z3, z4, z5, z6, hlt, rfl, z7, z8⟩, fun x H2 hx => ?_⟩
                  obtain ⟨F2, c, kp, r2⟩ := yi x H2 hx
                  have st2 := kp _ st'
                  obtain ⟨l', as2, q2⟩ := g.ok has c.fh r2
                  refine q2 (wipe σ vs) _ ⟨?_, ?_⟩
                  · have hm : ∀ p ∈ l', p.1 ∈ vs := Asg.fst (P := fun n => n ∈ vs) as2 fun p hp => by
                      have := (List.all_eq_true.mp hvs) p hp
                      simpa using this
                    rw [wipe_sets hm, wipe_idem vs vs fun _ z => z]
                  · have ff2 : Ex F F2 := (a.ff.trans b.ff).trans c.ff
                    have sl2 : SlsAt B w F2 H2 (setGm (wipeG Γ vs) l) (setSt (wipe σ vs) l') := (((sl.step step0).step b).step c |>.wiped vs).sets as2
                    have hD2 := c.rest Dl _ hH hF hOff
                    have ht := t.ok W0 c.fh st2 sl2
                    cases ho : t.ev (setGm (wipeG Γ vs) l) s' with
                    | stuck => rw [ho] at hr2; cases hr2
                    | exc _ _ _ => rw [ho] at hr2; cases hr2
                    | ret dt s3 =>
                      rw [ho] at hr2 ht
                      cases dt with
                      | bl bt =>
                        refine ht _ fun F3 H3 c3 st3 => ?_
                        have hD3 := c3.rest Dl _ hD2.2 hD2.1 hOff
                        have b3 := (b.trans c).trans c3
                        cases bt with
                        | false =>
                          rw [if_neg Bool.false_ne_true]
                          exact ⟨F3, s3, xs, ys, rest, b3, st3, hD3.1, hD3.2, (rp.mono c.ff).mono c3.ff, Nat.le_succ_of_le hyl, hr2, hz⟩
                        | true =>
                          rw [if_pos rfl]
                          have he := e.ok W0 c3.fh st3 (sl2.step c3)
                          have hr3 : (match e.ev (setGm (wipeG Γ vs) l) s3 with
                              | .ret z s2 => (match lcL g.as t.ev e.ev vs (wipeG Γ vs) (ds.drop (i + 1)) s2 with
                                | some (zs, s3) => some (z :: zs, s3)
                                | none => none)
                              | _ => none) = some (rest, sE) := hr2
                          cases ho2 : e.ev (setGm (wipeG Γ vs) l) s3 with
                          | stuck => rw [ho2] at hr3; cases hr3
                          | exc _ _ _ => rw [ho2] at hr3; cases hr3
                          | ret z s4 =>
                            rw [ho2] at hr3 he
                            have hr4 : (match lcL g.as t.ev e.ev vs (wipeG Γ vs) (ds.drop (i + 1)) s4 with
                                | some (zs, s3) => some (z :: zs, s3)
                                | none => none) = some (rest, sE) := hr3
                            cases hm : lcL g.as t.ev e.ev vs (wipeG Γ vs) (ds.drop (i + 1)) s4 with
                            | none => rw [hm] at hr4; cases hr4
                            | some zr =>
                              obtain ⟨zr, s5⟩ := zr
                              rw [hm] at hr4
                              cases hr4
                              refine he _ fun y F4 H4 c4 st4 r4 => ?_
                              have hD4 := c4.rest Dl _ hD3.2 hD3.1 hOff
                              have b4 := b3.trans c4
                              have rp4 := ((rp.mono c.ff).mono c3.ff).mono c4.ff
                              refine ⟨xs, hD4.2, sz_lt (by rw [rp.length]; omega), F4, s4, xs ++ [y], ys ++ [z], zr, ⟨b4.ff, Ex.mut b4.fh hD4.1, fun aa o h1 h2 h3 => ?_⟩, st4.mut hOff, hD4.1, upd_same, rp4.snoc r4, by simp; omega, hm, by rw [hz, List.append_assoc]; rfl⟩
                              have ad : aa ≠ Dl := ne_of_none h1 hD
                              rw [upd_ne ad]
                              exact b4.rest aa o h1 h2 h3
                      | _ => cases hr2
                · rw [if_neg hvs] at hr2; cases hr2
            · have ei : i = ds.length := by omega
              subst ei
              rw [List.drop_length] at hrest
              have hre : rest = [] ∧ s' = sE := by
                unfold lcL at hrest
                cases hrest
                exact ⟨rfl, rfl⟩
              obtain ⟨rfl, rfl⟩ := hre
              rw [List.append_nil] at hz
              subst hz
              have hS : Step w F H F' H' := step0.trans b
              exact .inl ⟨y2, q (.ref Dl) F' H' hS st' ⟨zs, Dl, xs, rfl, rfl, hD0, hF, hOff, hH, rp⟩⟩
        · rw [if_neg hl]; trivial
      | _ => trivial
end Dv

set_option Elab.async false
set_option linter.all false
set_option maxRecDepth 100000
/-! # Operations by values -/
namespace Dv
open PySem PySem.Spec PyProof.Rows L2 Evl

/-! ### ints -/
def O2.int0 (B : Bs) (f : Int → Int → D) (g : Int → Int → V) (h : ∀ i j w F, Rep B w F (f i j) (g i j)) : O2 B where
  r := rI0 g
  f := fun d e => match d, e with
    | .int i, .int j => some (f i j)
    | _, _ => none
  ok := fun {w F H x y d e} ex r1 r2 => by
    cases d with
    | int i =>
      cases e with
      | int j =>
        cases rep_int.mp r1
        cases rep_int.mp r2
        exact (OkV.pure ex (h i j w F)).imp fun Q q => ⟨i, j, rfl, rfl, q⟩
      | _ => exact fun z hz => nomatch hz
    | _ => exact fun z hz => nomatch hz
def O2.intC (B : Bs) (C : Int → Int → Prop) [∀ i j, Decidable (C i j)] (f : Int → Int → Int) : O2 B where
  r := rI C fun i j => .int (f i j)
  f := fun d e => match d, e with
    | .int i, .int j => if C i j then some (.int (f i j)) else none
    | _, _ => none
  ok := fun {w F H x y d e} ex r1 r2 => by
    cases d with
    | int i =>
      cases e with
      | int j =>
        cases rep_int.mp r1
        cases rep_int.mp r2
        show OkV B w F H _ (if C i j then some (.int (f i j)) else none)
        by_cases hc : C i j
        · rw [if_pos hc]
          exact (OkV.pure ex (rep_int.mpr rfl)).imp fun Q q => ⟨i, j, rfl, rfl, hc, q⟩
        · rw [if_neg hc]; exact fun z hz => nomatch hz
      | _ => exact fun z hz => nomatch hz
    | _ => exact fun z hz => nomatch hz
abbrev o_addI (B : Bs) : O2 B := .int0 B (fun i j => .int (i + j)) (fun i j => .int (i + j)) fun _ _ _ _ => rep_int.mpr rfl
abbrev o_subI (B : Bs) : O2 B := .int0 B (fun i j => .int (i - j)) (fun i j => .int (i - j)) fun _ _ _ _ => rep_int.mpr rfl
abbrev o_ltI (B : Bs) : O2 B := .int0 B (fun i j => .bl (decide (i < j))) (fun i j => .bl (decide (i < j))) fun _ _ _ _ => rep_bl.mpr rfl
abbrev o_leI (B : Bs) : O2 B := .int0 B (fun i j => .bl (decide (i ≤ j))) (fun i j => .bl (decide (i ≤ j))) fun _ _ _ _ => rep_bl.mpr rfl
abbrev o_gtI (B : Bs) : O2 B := .int0 B (fun i j => .bl (decide (j < i))) (fun i j => .bl (decide (j < i))) fun _ _ _ _ => rep_bl.mpr rfl
abbrev o_geI (B : Bs) : O2 B := .int0 B (fun i j => .bl (decide (j ≤ i))) (fun i j => .bl (decide (j ≤ i))) fun _ _ _ _ => rep_bl.mpr rfl
instance (i j : Int) : Decidable (CMul i j) := by unfold CMul; infer_instance
instance (i j : Int) : Decidable (CDiv i j) := by unfold CDiv; infer_instance
abbrev o_mulI (B : Bs) : O2 B := .intC B CMul (· * ·)
abbrev o_modI (B : Bs) : O2 B := .intC B (fun _ j => 0 < j) (· % ·)
abbrev o_divI (B : Bs) : O2 B := .intC B CDiv (· / ·)

/-! ### texts -/
def O2.strs (B : Bs) (C : Str → Str → Prop) [∀ i j, Decidable (C i j)] (f : Str → Str → D) (g : Str → Str → V) (r : R2) (hr : ∀ i j H (Q : VK), C i j → Q (g i j) H → r (.str i) (.str j) H Q) (h : ∀ i j w F, Rep B w F (f i j) (g i j)) : O2 B where
  r := r
  f := fun d e => match d, e with
    | .str i, .str j => if C i j then some (f i j) else none
    | _, _ => none
  ok := fun {w F H x y d e} ex r1 r2 => by
    cases d with
    | str i =>
      cases e with
      | str j =>
        cases rep_str.mp r1
        cases rep_str.mp r2
        show OkV B w F H _ (if C i j then some (f i j) else none)
        by_cases hc : C i j
        · rw [if_pos hc]
          exact (OkV.pure ex (h i j w F)).imp fun Q q => hr i j H Q hc q
        · rw [if_neg hc]; exact fun z hz => nomatch hz
      | _ => exact fun z hz => nomatch hz
    | _ => exact fun z hz => nomatch hz
def o_addS (B : Bs) : O2 B := .strs B (fun i j => i.length + j.length ≤ 100000) (fun i j => .str (i ++ j)) (fun i j => .str (i ++ j)) (fun x y H Q => ∃ i j, x = .str i ∧ y = .str j ∧ i.length + j.length ≤ sizeLine ∧ Q (.str (i ++ j)) H)
  (fun i j H Q hc q => ⟨i, j, rfl, rfl, sz_of hc, q⟩) fun _ _ _ _ => rep_str.mpr rfl
def o_ltS (B : Bs) : O2 B := .strs B (fun _ _ => True) (fun i j => .bl (decide (i.cps.toList < j.cps.toList))) (fun i j => .bl (decide (i.cps.toList < j.cps.toList))) (fun x y H Q => ∃ i j, x = .str i ∧ y = .str j ∧ Q (.bl (decide (i.cps.toList < j.cps.toList))) H)
  (fun i j H Q _ q => ⟨i, j, rfl, rfl, q⟩) fun _ _ _ _ => rep_bl.mpr rfl
def o_leS (B : Bs) : O2 B := .strs B (fun _ _ => True) (fun i j => .bl (!decide (j.cps.toList < i.cps.toList))) (fun i j => .bl (!decide (j.cps.toList < i.cps.toList))) (fun x y H Q => ∃ i j, x = .str i ∧ y = .str j ∧ Q (.bl (!decide (j.cps.toList < i.cps.toList))) H)
  (fun i j H Q _ q => ⟨i, j, rfl, rfl, q⟩) fun _ _ _ _ => rep_bl.mpr rfl

/-! ### lists and tuples put together -/
def o_catL (B : Bs) : O2 B where
  r := rCat
  f := fun d e => match d, e with
    | .lst xs, .lst ys => if xs.length + ys.length ≤ 100000 then some (.lst (xs ++ ys)) else none
    | _, _ => none
  ok := fun {w F H x y d e} ex r1 r2 => by
    cases d with
    | lst xs =>
      cases e with
      | lst ys =>
        obtain ⟨p, vs, rfl, h1, h2⟩ := rep_lst.mp r1
        obtain ⟨q, us, rfl, h3, h4⟩ := rep_lst.mp r2
        show OkV B w F H _ (if xs.length + ys.length ≤ 100000 then some (.lst (xs ++ ys)) else none)
        by_cases hc : xs.length + ys.length ≤ 100000
        · rw [if_pos hc]
          exact (OkV.new (o := .lst (vs ++ us)) ex fun r hr => rep_lst.mpr ⟨r, _, rfl, upd_same, (h2.append h4).mono (Ex.new hr)⟩).imp fun Q q' => ⟨p, q, vs, us, rfl, rfl, ex _ _ h1, ex _ _ h3, sz_of (by rw [h2.length, h4.length]; exact hc), q'⟩
        · rw [if_neg hc]; exact fun z hz => nomatch hz
      | _ => exact fun z hz => nomatch hz
    | _ => exact fun z hz => nomatch hz
def o_catT (B : Bs) : O2 B where
  r := rCatA B.K
  f := fun d e => match d, e with
    | .tup _ xs, .tup _ ys => if xs.length + ys.length ≤ 100000 then some (.tup false (xs ++ ys)) else none
    | _, _ => none
  ok := fun {w F H x y d e} ex r1 r2 => by
    cases d with
    | tup pl xs =>
      cases e with
      | tup pl' ys =>
        obtain ⟨p, vs, rfl, h1, h2⟩ := rep_tupE r1
        obtain ⟨q, us, rfl, h3, h4⟩ := rep_tupE r2
        show OkV B w F H _ (if xs.length + ys.length ≤ 100000 then some (.tup false (xs ++ ys)) else none)
        by_cases hc : xs.length + ys.length ≤ 100000
        · rw [if_pos hc]
          intro z hz Q k
          cases hz
          refine ⟨p, q, vs, us, rfl, rfl, ex_t ex h1, ex_t ex h3, sz_of (by rw [h2.length, h4.length]; exact hc), fun hv => ?_, fun hv hu => ?_, fun hv hu r hr => ?_⟩
          · subst hv
            have e0 : xs = [] := List.eq_nil_of_length_eq_zero (by rw [← h2.length] <;> rfl)
            subst e0
            exact k _ F H (Step.refl ex) (fun _ s => s) (rep_tup.mpr ⟨q, us, rfl, h3, h4⟩)
          · subst hu
            have e0 : ys = [] := List.eq_nil_of_length_eq_zero (by rw [← h4.length] <;> rfl)
            subst e0
            rw [List.append_nil] at k
            exact k _ F H (Step.refl ex) (fun _ s => s) (rep_tup.mpr ⟨p, vs, rfl, h1, h2⟩)
          · exact k _ _ _ (Step.new ex hr) (fun s st => st.new hr) (rep_tup.mpr ⟨r, _, rfl, st_of upd_same, (h2.append h4).mono (Ex.new (fresh_back ex hr))⟩)
        · rw [if_neg hc]; exact fun z hz => nomatch hz
      | _ => exact fun z hz => nomatch hz
    | _ => exact fun z hz => nomatch hz
def o_add (B : Bs) : O2 B := (o_addI B).or ((o_addS B).or ((o_catL B).or (o_catT B)))
def o_lt (B : Bs) : O2 B := (o_ltI B).or (o_ltS B)
def o_le (B : Bs) : O2 B := (o_leI B).or (o_leS B)

/-! ### equality of plain data -/
mutual
def pd : D → Option PyData
  | .non => some .none
  | .bl b => some (.bool b)
  | .int i => some (.int i)
  | .str x => some (.str x)
  | .lst ds => (pds ds).map .list
  | .tup _ ds => (pds ds).map .tuple
  | _ => none
def pds : List D → Option (List PyData)
  | [] => some []
  | d :: ds => match pd d with
    | some x => match pds ds with
      | some xs => some (x :: xs)
      | none => none
    | none => none
end
section
variable {B : Bs} {w : Wd} {F : Hp}
mutual
theorem rep_dp : ∀ {d : D} {v : V} {x : PyData}, pd d = some x → Rep B w F d v → Dp B.K F v x
  | .non, _, _, h, r => by cases h; cases rep_non.mp r; exact .non
  | .bl _, _, _, h, r => by cases h; cases rep_bl.mp r; exact .bl _
  | .int _, _, _, h, r => by cases h; cases rep_int.mp r; exact .int _
  | .str _, _, _, h, r => by cases h; cases rep_str.mp r; exact .str _
  | .lst ds, _, _, h, r => by
    obtain ⟨p, xs, rfl, h1, h2⟩ := rep_lst.mp r
    unfold pd at h
    cases hp : pds ds with
    | none => rw [hp] at h; cases h
    | some ys => rw [hp] at h; cases h; exact .lst (sq_of h1) (reps_dp hp h2)
  | .tup _ ds, _, _, h, r => by
    obtain ⟨p, xs, rfl, h1, h2⟩ := rep_tupE r
    unfold pd at h
    cases hp : pds ds with
    | none => rw [hp] at h; cases h
    | some ys => rw [hp] at h; cases h; exact .tup h1 (reps_dp hp h2)
  | .dic _ _, _, _, h, _ => by cases h
  | .ins _ _, _, _, h, _ => by cases h
  | .hnd, _, _, h, _ => by cases h
  | .rol _, _, _, h, _ => by cases h
theorem reps_dp : ∀ {ds : List D} {vs : List V} {xs : List PyData}, pds ds = some xs → Reps B w F ds vs → DpAll B.K F vs xs
  | [], _, _, h, r => by cases h; rw [reps_nil.mp r]; exact .nil
  | d :: ds, _, _, h, r => by
    obtain ⟨v, vs, rfl, h1, h2⟩ := reps_cons.mp r
    unfold pds at h
    cases hd : pd d with
    | none => rw [hd] at h; cases h
    | some x =>
      rw [hd] at h
      cases hs : pds ds with
      | none => rw [hs] at h; cases h
      | some ys =>
        rw [hs] at h
        cases h
        exact .cons (rep_dp hd h1) (reps_dp hs h2)
end
end
mutual
theorem dp_ex {K : PySem.W.Frag} {F H : Hp} (e : Ex F H) : ∀ {x : PyData} {v : V}, Dp K F v x → Dp K H v x
  | .none, _, h => by cases h; exact .non
  | .bool _, _, h => by cases h; exact .bl _
  | .int _, _, h => by cases h; exact .int _
  | .str _, _, h => by cases h; exact .str _
  | .list _, _, h => by cases h with | lst a b => exact .lst (ex_l e a) (dps_ex e b)
  | .tuple _, _, h => by cases h with | tup a b => exact .tup (ex_t e a) (dps_ex e b)
  | .dict _, _, h => by cases h
theorem dps_ex {K : PySem.W.Frag} {F H : Hp} (e : Ex F H) : ∀ {xs : List PyData} {vs : List V}, DpAll K F vs xs → DpAll K H vs xs
  | [], _, h => by cases h; exact .nil
  | _ :: _, _, h => by cases h with | cons a b => exact .cons (dp_ex e a) (dps_ex e b)
end
def eqF (neg : Bool) (d e : D) : Option D := match pd d, pd e with
  | some x, some y => if SeqAt.shaped x = true ∧ SeqAt.shaped y = true then some (.bl (if neg then !PyData.eqv x y else PyData.eqv x y)) else none
  | _, _ => none
def o_eqD (B : Bs) : O2 B where
  r := rEqD B.K
  f := eqF false
  ok := fun {w F H x y d e} ex r1 r2 => by
    unfold eqF
    cases h1 : pd d with
    | none => exact fun z hz => nomatch hz
    | some a =>
      cases h2 : pd e with
      | none => exact fun z hz => nomatch hz
      | some b =>
        show OkV B w F H _ (if SeqAt.shaped a = true ∧ SeqAt.shaped b = true then some (.bl (PyData.eqv a b)) else none)
        by_cases hc : SeqAt.shaped a = true ∧ SeqAt.shaped b = true
        · rw [if_pos hc]
          exact (OkV.pure ex (rep_bl.mpr rfl)).imp fun Q q => ⟨a, b, dp_ex ex (rep_dp h1 r1), dp_ex ex (rep_dp h2 r2), hc.1, hc.2, q⟩
        · rw [if_neg hc]; exact fun z hz => nomatch hz
def o_neD (B : Bs) : O2 B where
  r := rNeD B.K
  f := eqF true
  ok := fun {w F H x y d e} ex r1 r2 => by
    unfold eqF
    cases h1 : pd d with
    | none => exact fun z hz => nomatch hz
    | some a =>
      cases h2 : pd e with
      | none => exact fun z hz => nomatch hz
      | some b =>
        show OkV B w F H _ (if SeqAt.shaped a = true ∧ SeqAt.shaped b = true then some (.bl (!PyData.eqv a b)) else none)
        by_cases hc : SeqAt.shaped a = true ∧ SeqAt.shaped b = true
        · rw [if_pos hc]
          exact (OkV.pure ex (rep_bl.mpr rfl)).imp fun Q q => ⟨a, b, dp_ex ex (rep_dp h1 r1), dp_ex ex (rep_dp h2 r2), hc.1, hc.2, q⟩
        · rw [if_neg hc]; exact fun z hz => nomatch hz

/-! ### in a list, a tuple of flat things -/
def fl : D → Option V
  | .non => some .non
  | .bl b => some (.bl b)
  | .int i => some (.int i)
  | .str x => some (.str x)
  | _ => none
def fls : List D → Option (List V)
  | [] => some []
  | d :: ds => match fl d with
    | some v => match fls ds with
      | some vs => some (v :: vs)
      | none => none
    | none => none
theorem fl_rep {B : Bs} {w : Wd} {F : Hp} : ∀ {d : D} {v u : V}, fl d = some v → Rep B w F d u → u = v ∧ flatV v = true
  | .non, _, _, h, r => by cases h; exact ⟨rep_non.mp r, rfl⟩
  | .bl _, _, _, h, r => by cases h; exact ⟨rep_bl.mp r, rfl⟩
  | .int _, _, _, h, r => by cases h; exact ⟨rep_int.mp r, rfl⟩
  | .str _, _, _, h, r => by cases h; exact ⟨rep_str.mp r, rfl⟩
theorem fls_rep {B : Bs} {w : Wd} {F : Hp} : ∀ {ds : List D} {vs us : List V}, fls ds = some vs → Reps B w F ds us → us = vs ∧ vs.all flatV = true
  | [], _, _, h, r => by cases h; exact ⟨reps_nil.mp r, rfl⟩
  | d :: ds, _, _, h, r => by
    obtain ⟨v, vs, rfl, h1, h2⟩ := reps_cons.mp r
    unfold fls at h
    cases hd : fl d with
    | none => rw [hd] at h; cases h
    | some x =>
      rw [hd] at h
      cases hs : fls ds with
      | none => rw [hs] at h; cases h
      | some ys =>
        rw [hs] at h
        cases h
        obtain ⟨e1, f1⟩ := fl_rep hd h1
        obtain ⟨e2, f2⟩ := fls_rep hs h2
        subst e1 e2
        exact ⟨rfl, by rw [List.all_cons, f1, f2] <;> rfl⟩
def sqOf : D → Option (List D)
  | .lst ds => some ds
  | .tup _ ds => some ds
  | _ => none
def inF (neg : Bool) (d e : D) : Option D := match fl d with
  | some v => match sqOf e with
    | some ds => match fls ds with
      | some vs => some (.bl (if neg then !inV v vs else inV v vs))
      | none => none
    | none => none
  | none => none
theorem sq_rep {B : Bs} {w : Wd} {F H : Hp} (ex : Ex F H) : ∀ {e : D} {ds : List D} {v : V}, sqOf e = some ds → Rep B w F e v → ∃ p us, v = .ref p ∧ (SqL B.K H p us ∨ SqT B.K H p us) ∧ Reps B w F ds us
  | .lst ds, _, _, h, r => by
    cases h
    obtain ⟨p, us, e, h3, h4⟩ := rep_lst.mp r
    exact ⟨p, us, e, .inl (sq_of (ex _ _ h3)), h4⟩
  | .tup _ ds, _, _, h, r => by
    cases h
    obtain ⟨p, us, e, h3, h4⟩ := rep_tupE r
    exact ⟨p, us, e, .inr (ex_t ex h3), h4⟩
def o_in (B : Bs) (neg : Bool) : O2 B where
  r := rIn B.K neg
  f := inF neg
  ok := fun {w F H x y d e} ex r1 r2 => by
    unfold inF
    cases h1 : fl d with
    | none => exact fun z hz => nomatch hz
    | some v =>
      obtain ⟨e1, f1⟩ := fl_rep h1 r1
      subst e1
      cases h2 : sqOf e with
      | none => exact fun z hz => nomatch hz
      | some ds =>
        obtain ⟨p, us, rfl, h3, h4⟩ := sq_rep ex h2 r2
        cases h5 : fls ds with
        | none =>
          intro z hz
          simp only [h5] at hz
          cases hz
        | some vs =>
          obtain ⟨e2, f2⟩ := fls_rep h5 h4
          subst e2
          intro z hz
          simp only [h5] at hz
          exact (OkV.pure ex (rep_bl.mpr rfl)).imp (fun Q q => ⟨p, us, rfl, h3, f1, f2, q⟩) z hz

/-! ### len, list, tuple, all, any, sum -/
def OC.one {B : Bs} (f : D → Option D) (r : List V → Hp → VK → Prop) (h : ∀ {w : Wd} {F H : Hp} {v : V} {d : D}, Ex F H → Rep B w F d v → OkV B w F H (r [v] H) (f d)) : OC B where
  r := r
  f := fun ds => match ds with
    | [d] => f d
    | _ => none
  ok := fun {w F H xs ds} ex rs => by
    match ds, rs with
    | [], _ => exact fun z hz => nomatch hz
    | [d], rs =>
      obtain ⟨v, vs, rfl, h1, h2⟩ := reps_cons.mp rs
      rw [reps_nil.mp h2]
      exact h ex h1
    | _ :: _ :: _, _ => exact fun z hz => nomatch hz
def lenF : D → Option D
  | .lst ds => some (.int ds.length)
  | .rol ds => some (.int ds.length)
  | .tup _ ds => some (.int ds.length)
  | .str x => if x.length ≤ 100000 then some (.int x.length) else none
  | _ => none
def o_len (B : Bs) : OC B := .one lenF (fun xs H Q => ∃ x n, xs = [x] ∧ LenV B.K x H n ∧ Q (.int n) H) fun {w F H v d} ex r => by
  cases d with
  | lst ds =>
    obtain ⟨p, us, rfl, h3, h4⟩ := rep_lst.mp r
    rw [show lenF (.lst ds) = some (.int (us.length : Nat)) from by rw [h4.length] <;> rfl]
    exact (OkV.pure ex (rep_int.mpr rfl)).imp fun Q q => ⟨_, _, rfl, .inl ⟨us, sq_of (ex _ _ h3), rfl⟩, q⟩
  | rol ds =>
    obtain ⟨p, rfl, h3⟩ := rep_rol.mp r
    refine (OkV.pure ex (rep_int.mpr rfl)).imp fun Q q => ⟨_, _, rfl, .inl ⟨_, ex_l ex h3, rfl⟩, ?_⟩
    rw [List.length_map]
    exact q
  | tup pl ds =>
    obtain ⟨p, us, rfl, h3, h4⟩ := rep_tupE r
    rw [show lenF (.tup pl ds) = some (.int (us.length : Nat)) from by rw [h4.length] <;> rfl]
    exact (OkV.pure ex (rep_int.mpr rfl)).imp fun Q q => ⟨_, _, rfl, .inr ⟨us, ex_t ex h3, rfl⟩, q⟩
  | str x =>
    cases rep_str.mp r
    show OkV B w F H _ (if x.length ≤ 100000 then some (.int x.length) else none)
    by_cases hc : x.length ≤ 100000
    · rw [if_pos hc]
      exact (OkV.pure ex (rep_int.mpr rfl)).imp fun Q q => ⟨_, _, rfl, ⟨sz_of hc, rfl⟩, q⟩
    · rw [if_neg hc]; exact fun z hz => nomatch hz
  | _ => exact fun z hz => nomatch hz
/-- tuple(x): what is laid is plain -/
def tupF : D → Option D
  | .lst ds => some (.tup true ds)
  | .tup pl ds => some (.tup pl ds)
  | _ => none
def rTupP (K : PySem.W.Frag) : List V → Hp → VK → Prop := fun xs H Q => ∃ p ys, xs = [.ref p] ∧ ((SqL K H p ys ∧ ∀ (l : Addr) (ob : Obj), H l = none → ob.dict = none → Q (.ref l) (upd H l (.frz ob (.tup ys)))) ∨ (SqT K H p ys ∧ Q (.ref p) H))
theorem OkV.newP {B : Bs} {w : Wd} {F H : Hp} {ds : List D} {us : List V} (e : Ex F H) (r : Reps B w F ds us) : OkV B w F H (fun Q => ∀ (p : Addr) (ob : Obj), H p = none → ob.dict = none → Q (.ref p) (upd H p (.frz ob (.tup us)))) (some (.tup true ds)) := fun z h Q q p ob hp hd => by
  cases h
  exact q (.ref p) _ _ (Step.new e hp) (fun s st => st.new hp) (rep_tupN upd_same hd (r.mono (Ex.new (fresh_back e hp))))
def o_tup (B : Bs) : OC B := .one tupF (rTupP B.K) fun {w F H v d} ex r => by
  cases d with
  | lst ds =>
    obtain ⟨p, us, rfl, h3, h4⟩ := rep_lst.mp r
    exact (OkV.newP ex h4).imp fun Q q => ⟨p, us, rfl, .inl ⟨sq_of (ex _ _ h3), q⟩⟩
  | tup pl ds =>
    obtain ⟨p, us, rfl, h3, h4⟩ := rep_tupE r
    exact (OkV.pure ex r).imp fun Q q => ⟨p, us, rfl, .inr ⟨ex_t ex h3, q⟩⟩
  | _ => exact fun z hz => nomatch hz
theorem call_tupP {X : Cx} : CallR X (.type "tuple") (rTupP X.K) := by
  intro pins s σ H xs us Q I r h
  obtain ⟨p, ys, rfl, h⟩ := h
  obtain ⟨u, rfl, rx⟩ := vals1 r
  cases rx
  rcases h with ⟨hq, q⟩ | ⟨hq, q⟩
  · obtain ⟨its, rv, pl, hz⟩ := I.list hq
    have hl := rv.length
    refine call_tuple_list pl.isList (fun hn kp => ?_) (by simp only [List.size_toArray] <;> omega)
    have I1 : Inv X pins σ H { s with heap := hn } := I.kept (t' := s.toks) kp
    have I2 : Inv X pins σ (upd H hn.objs.size (.frz { cls := .type "tuple", data := .seq its.toArray } (.tup ys))) { s with heap := hn.push { cls := .type "tuple", data := .seq its.toArray } } :=
      I1.laid (t' := s.toks) (fun b o e => Heap.get?_push_of_some _ e) (Nat.le_refl _) ⟨Heap.get?_push_size _ rfl, hz, its, rv, IsTup.new _ _⟩
    exact ⟨.ref hn.objs.size, _, I2, rfl, q _ _ (I1.hok.fresh (Nat.le_refl _)) rfl⟩
  · obtain ⟨its, rv, pl, hz⟩ := I.tuple hq
    exact call_tuple_same pl ⟨.ref p, H, I, rfl, q⟩
def blsOf : List D → Option (List Bool)
  | [] => some []
  | .bl b :: ds => (blsOf ds).map (b :: ·)
  | _ :: _ => none
def intsOf : List D → Option (List Int)
  | [] => some []
  | .int b :: ds => (intsOf ds).map (b :: ·)
  | _ :: _ => none
def strsOf : List D → Option (List Str)
  | [] => some []
  | .str b :: ds => (strsOf ds).map (b :: ·)
  | _ :: _ => none
theorem bls_rep {B : Bs} {w : Wd} {F : Hp} : ∀ {ds : List D} {bs : List Bool} {us : List V}, blsOf ds = some bs → Reps B w F ds us → us = bs.map V.bl
  | [], _, _, h, r => by cases h; exact reps_nil.mp r
  | .bl b :: ds, bs, _, h, r => by
    obtain ⟨v, vs, rfl, h1, h2⟩ := reps_cons.mp r
    unfold blsOf at h
    cases hs : blsOf ds with
    | none => rw [hs] at h; cases h
    | some cs => rw [hs] at h; cases h; rw [rep_bl.mp h1, bls_rep hs h2] <;> rfl
theorem ints_rep {B : Bs} {w : Wd} {F : Hp} : ∀ {ds : List D} {bs : List Int} {us : List V}, intsOf ds = some bs → Reps B w F ds us → us = bs.map V.int
  | [], _, _, h, r => by cases h; exact reps_nil.mp r
  | .int b :: ds, bs, _, h, r => by
    obtain ⟨v, vs, rfl, h1, h2⟩ := reps_cons.mp r
    unfold intsOf at h
    cases hs : intsOf ds with
    | none => rw [hs] at h; cases h
    | some cs => rw [hs] at h; cases h; rw [rep_int.mp h1, ints_rep hs h2] <;> rfl
theorem strs_rep {B : Bs} {w : Wd} {F : Hp} : ∀ {ds : List D} {bs : List Str} {us : List V}, strsOf ds = some bs → Reps B w F ds us → us = bs.map V.str
  | [], _, _, h, r => by cases h; exact reps_nil.mp r
  | .str b :: ds, bs, _, h, r => by
    obtain ⟨v, vs, rfl, h1, h2⟩ := reps_cons.mp r
    unfold strsOf at h
    cases hs : strsOf ds with
    | none => rw [hs] at h; cases h
    | some cs => rw [hs] at h; cases h; rw [rep_str.mp h1, strs_rep hs h2] <;> rfl
def onL (g : List D → Option D) : D → Option D
  | .lst ds => g ds
  | _ => none
def o_all (B : Bs) : OC B := .one (onL fun ds => (blsOf ds).map fun bs => .bl (bs.all id)) (rAll B.K) fun {w F H v d} ex r => by
  cases d with
  | lst ds =>
    obtain ⟨p, us, rfl, h3, h4⟩ := rep_lst.mp r
    show OkV B w F H _ ((blsOf ds).map fun bs => .bl (bs.all id))
    cases hb : blsOf ds with
    | none => exact fun z hz => nomatch hz
    | some bs =>
      have e := bls_rep hb h4
      subst e
      exact (OkV.pure ex (rep_bl.mpr rfl)).imp fun Q q => ⟨p, bs, rfl, sq_of (ex _ _ h3), q⟩
  | _ => exact fun z hz => nomatch hz
def o_any (B : Bs) : OC B := .one (onL fun ds => (blsOf ds).map fun bs => .bl (bs.any id)) (rAny B.K) fun {w F H v d} ex r => by
  cases d with
  | lst ds =>
    obtain ⟨p, us, rfl, h3, h4⟩ := rep_lst.mp r
    show OkV B w F H _ ((blsOf ds).map fun bs => .bl (bs.any id))
    cases hb : blsOf ds with
    | none => exact fun z hz => nomatch hz
    | some bs =>
      have e := bls_rep hb h4
      subst e
      exact (OkV.pure ex (rep_bl.mpr rfl)).imp fun Q q => ⟨p, bs, rfl, sq_of (ex _ _ h3), q⟩
  | _ => exact fun z hz => nomatch hz
/-- int(x) -/
def o_int (B : Bs) : OC B := .one (fun d => match d with
    | .int i => some (.int i)
    | .bl k => some (.int (if k then 1 else 0))
    | _ => none) (fun xs H Q => (∃ i, xs = [.int i] ∧ Q (.int i) H) ∨ ∃ k, xs = [.bl k] ∧ Q (.int (if k then 1 else 0)) H) fun {w F H v d} ex r => by
  cases d with
  | int i =>
    cases rep_int.mp r
    exact (OkV.pure ex (rep_int.mpr rfl)).imp fun Q q => .inl ⟨i, rfl, q⟩
  | bl k =>
    cases rep_bl.mp r
    exact (OkV.pure ex (rep_int.mpr rfl)).imp fun Q q => .inr ⟨k, rfl, q⟩
  | _ => exact fun z hz => nomatch hz
/-- a call of a built-in -/
def XE.blt {B : Bs} (o : OC B) (ps : List (XE B)) : XE B where
  te := fun Wx => tCB o.r (tas Wx ps)
  ev := fun Γ s => evs Γ ps s fun ds s1 => Res.opt (o.f ds) s1
  ok := fun {w F H σ Γ s} Wx e st sl => evs_ok Wx ps (u := fun vs H1 Q => o.r vs H1 Q) e st sl fun ds s1 vs F1 H1 a st1 r _ => (o.ok a.fh r).toE st1
/-- x[i] of lists, tuples, dicts -/
def lookK (kvs : List (Key × D)) (k : Key) : Option D := (kvs.find? fun kv => decide (kv.1 = k)).map (·.2)
def ixF (d e : D) : Option D := match e with
  | .int i => match d with
    | .lst ds => atI ds i
    | .tup _ ds => atI ds i
    | .dic _ kvs => lookK kvs (.inl i)
    | _ => none
  | .str x => match d with
    | .dic _ kvs => lookK kvs (.inr x)
    | _ => none
  | _ => none
def rIxDc : R2 := fun x y H Q => ∃ p v, x = .ref p ∧ DGet H p y (some v) ∧ Q v H
theorem repK_look {B : Bs} {w : Wd} {F : Hp} {k : Key} {d : D} : ∀ {kvs : List (Key × D)} {xs : List (Key × V)}, RepK B w F kvs xs → lookK kvs k = some d → ∃ v, valV xs k = some v ∧ Rep B w F d v
  | [], _, _, h => by cases h
  | (k1, d1) :: kvs, _, r, h => by
    obtain ⟨v, xs, rfl, h1, h2⟩ := repK_cons.mp r
    unfold lookK at h
    unfold valV
    rw [List.find?_cons] at h ⊢
    by_cases hk : k1 = k
    · rw [decide_eq_true hk] at h ⊢
      cases h
      exact ⟨v, rfl, h1⟩
    · rw [decide_eq_false hk] at h ⊢
      exact repK_look h2 h
theorem ixN_lt {n : Nat} {i : Int} {j : Nat} (h : ixN n i = some j) : j < n := by
  unfold ixN at h
  split at h
  · split at h
    · cases h; omega
    · cases h
  · split at h
    · cases h; omega
    · cases h
theorem reps_at {B : Bs} {w : Wd} {F : Hp} {ds : List D} {us : List V} {i : Int} {d : D} (h : atI ds i = some d) (r : Reps B w F ds us) : ∃ v, atI us i = some v ∧ Rep B w F d v := by
  unfold atI at h ⊢
  rw [r.length]
  cases hj : ixN ds.length i with
  | none => rw [hj] at h; cases h
  | some j =>
    rw [hj] at h
    exact r.get (i := j) h
theorem dic_ix {B : Bs} {w : Wd} {F H : Hp} {x : V} {pl : Bool} {kvs : List (Key × D)} {k : Key} (ex : Ex F H) (r1 : Rep B w F (.dic pl kvs) x) : OkV B w F H (rIxDc x (kV k) H) (lookK kvs k) := by
  obtain ⟨p, us, rfl, h3, h4⟩ := rep_dicE r1
  cases hl : lookK kvs k with
  | none => exact fun z hz => nomatch hz
  | some d =>
    obtain ⟨v, e1, r⟩ := repK_look h4 hl
    exact (OkV.pure ex r).imp fun Q q => ⟨p, v, rfl, by rw [← e1]; exact .inl ⟨us, k, ex_rd ex h3, rfl, rfl⟩, q⟩
def o_ix (B : Bs) : O2 B where
  r := fun x y H Q => rIxL B.K x y H Q ∨ rIxT B.K x y H Q ∨ rIxDc x y H Q
  f := ixF
  ok := fun {w F H x y d e} ex r1 r2 => by
    cases e with
    | int i =>
      cases rep_int.mp r2
      cases d with
      | lst ds =>
        obtain ⟨p, us, rfl, h3, h4⟩ := rep_lst.mp r1
        show OkV B w F H _ (atI ds i)
        cases ha : atI ds i with
        | none => exact fun z hz => nomatch hz
        | some z =>
          obtain ⟨v, e1, r⟩ := reps_at ha h4
          exact (OkV.pure ex r).imp fun Q q => .inl ⟨p, us, i, v, rfl, rfl, sq_of (ex _ _ h3), e1, q⟩
      | tup pl ds =>
        obtain ⟨p, us, rfl, h3, h4⟩ := rep_tupE r1
        show OkV B w F H _ (atI ds i)
        cases ha : atI ds i with
        | none => exact fun z hz => nomatch hz
        | some z =>
          obtain ⟨v, e1, r⟩ := reps_at ha h4
          exact (OkV.pure ex r).imp fun Q q => .inr (.inl ⟨p, us, i, v, rfl, rfl, ex_t ex h3, e1, q⟩)
      | dic kvs => exact (dic_ix (k := .inl i) ex r1).imp fun Q q => .inr (.inr q)
      | _ => exact fun z hz => nomatch hz
    | str z =>
      cases rep_str.mp r2
      cases d with
      | dic kvs => exact (dic_ix (k := .inr z) ex r1).imp fun Q q => .inr (.inr q)
      | _ => exact fun z hz => nomatch hz
    | _ => exact fun z hz => nomatch hz
/-- (a, b, ..): plain -/
def tTupP (t : TA) : TE := fun σ H Q => t σ H fun xs H1 => xs.length ≤ sizeLine ∧ ∀ (p : Addr) (ob : Obj), H1 p = none → ob.dict = none → Q (.ref p) (upd H1 p (.frz ob (.tup xs)))
theorem pe_tupP {X : Cx} {es : List Expr} {t : TA} {pos : Pos} {x1} (h : PA X es t) : PE X (.Tuple es x1 pos) (tTupP t) := by
  refine ⟨fun pins s σ H Q I hq => ?_⟩
  refine wpAny_Tuple_spliced (thn (h.run pos pins s σ H _ I hq) fun us sn ⟨xs, H1, I1, r, z, q⟩ => ⟨by rw [← r.length]; exact z, ?_⟩)
  have hf : H1 sn.heap.objs.size = none := I1.hok.fresh (Nat.le_refl _)
  refine ⟨.ref sn.heap.objs.size, _, I1.laid (t' := sn.toks) (o := .frz { cls := .type "tuple", data := .seq us.toArray } (.tup xs)) (fun b u e => Heap.get?_push_of_some _ e) (Nat.le_refl _) ?_, rfl, q _ _ hf rfl⟩
  exact ⟨Heap.get?_push_size _ rfl, z, us, r, ⟨_, Heap.get?_push_size _ rfl, rfl, _, rfl⟩⟩
def XE.tup {B : Bs} (ps : List (XE B)) (hl : ps.length ≤ 100000 := by exact Nat.le_of_ble_eq_true rfl) : XE B where
  te := fun Wx => tTupP (tas Wx ps)
  ev := fun Γ s => evs Γ ps s fun ds s1 => .ret (.tup true ds) s1
  ok := fun {w F H σ Γ s} Wx e st sl => evs_ok Wx ps (u := fun xs H1 Q => xs.length ≤ sizeLine ∧ ∀ (p : Addr) (ob : Obj), H1 p = none → ob.dict = none → Q (.ref p) (upd H1 p (.frz ob (.tup xs)))) e st sl fun ds s1 vs F1 H1 a st1 r hn =>
    OkP.imp ((OkV.newP a.fh r).toE st1) fun Q q => ⟨sz_of (by rw [r.length, hn]; exact hl), q⟩
end Dv

set_option Elab.async false
set_option linter.all false
set_option maxRecDepth 100000
/-! # Own classes -/
namespace Dv
open PySem PySem.Spec PyProof.Rows L2 Evl

section
variable {X : Cx} {CX : CXT} {k : Nat} {f : Addr} {fd : FuncData} {ps : List Str} {sp : Sp} {E : XK} {A : Around} {pins : List (Addr × Obj)} {σ : L2.St} {H : Hp} {s : Shared} {Q : VK} {us : List Value} {vs : List V}
/-- a def of the text runs below the running body, at the slots as they stand -/
theorem run_any (Fn : FnOk X.prog X.w X.K X.mg X.base CX k f fd ps sp) (room : Room k A) (e0 : Env0 X.prog X.w X.K X.mg X.base A X.stack s H) (bd : Binds X.K fd ps []) (px : PassesAt CX X σ E)
    (I : Inv X pins σ H s) (rv : Vals vs us) (hsp : sp vs H Q E) : wpAny (model X.prog X.w) A (call (.ref f) us) (EP X pins σ Q) X.xe s := by
  have len : us.length = ps.length := by
    rw [← rv.length]
    exact Fn.len _ _ _ _ hsp
  have bt := bd s us I.kIn (by rw [List.append_nil]; exact len)
  rw [List.append_nil] at bt
  refine wpAny_call (codeAny_mono (Fn.run A X.stack s H ⟨us, []⟩ us vs Q E room e0 bt rv hsp) fun r s' hr => ?_)
  cases r with
  | error x => exact px pins H s x s' I hr
  | ok fl =>
    cases fl with
    | ret u => exact I.after hr
    | _ => exact hr.elim
/-- an instance that is tracked, as the library sees it -/
theorem inst_of {a C dx : Addr} {fs : List (Str × V)} (I : Inv X pins σ H s) (ea : H a = some (.ins C dx fs)) : ∃ (ox : Obj) (od : Option Obj), PySem.W.InstAt s.heap a ox C od := by
  obtain ⟨mA, O, _⟩ := ins_get I.hok ea
  obtain ⟨od, J, _⟩ := O.look
  exact ⟨_, _, J⟩
end

/-! ### own operators: the class's name, the method's function -/
abbrev Hd := List (Str × Gf)
def Hd.at (hs : Hd) (c : Str) : Option Gf := (hs.find? fun h => decide (h.1 = c)).map (·.2)
def clsOf : D → Option Str
  | .ins c _ => some c
  | _ => none
/-- the own method of x is called -/
def ownR (B : Bs) (hs : Hd) (n : Nat) (x : V) (xs : List V) (H : Hp) (Q : VK) (E : XK) : Prop := ∃ c g p dx fs, hs.at c = some g ∧ x = .ref p ∧ H p = some (.ins (B.ca c) dx fs) ∧ spD B n g (x :: xs) H Q E
theorem ownR_ok {B : Bs} {hs : Hd} {n : Nat} {w : Wd} {F H : Hp} {σ : L2.St} {Wx : WX} {c : Str} {fs : List (Str × D)} {x : V} {ds : List D} {xs : List V} {s : HS} (g : Gf) (hg : hs.at c = some g) (hn : ds.length + 1 = n) (e : Ex F H) (st : StAt w s F H) (r : Rep B w F (.ins c fs) x) (rs : Reps B w F ds xs) :
    OkE B w F H σ Wx (fun Q => ownR B hs n x xs H Q (WE Wx σ)) (g (.ins c fs :: ds) s) := by
  obtain ⟨p, dx, ys, rfl, h1, h2⟩ := rep_ins.mp r
  exact OkP.imp (spD_use (g := g) (ds := .ins c fs :: ds) (vs := .ref p :: xs) (by simpa using hn) e st (reps_cons.mpr ⟨_, _, rfl, r, rs⟩)) fun Q q => ⟨c, g, p, dx, ys, hg, rfl, e _ _ h1, q⟩
/-- what the top has made of an own method: where it stands, that it keeps its promise -/
structure OwnM (B : Bs) (X : Cx) (k : Nat) (m : Str) (n : Nat) (c : Str) (g : Gf) : Prop where
  ex : ∃ f fd ps, PySem.W.findIn X.K (.ref (B.ca c)) m = some (some (.ref f)) ∧ PySem.W.isFn X.K (.ref f) = true ∧ PySem.W.fnIn X.K f = true ∧ PySem.W.keepIn X.K (.ref f) = true ∧ Cls X.K (B.ca c) ∧ Binds X.K fd ps [] ∧ ps.length = n ∧ FnOk X.prog X.w X.K X.mg X.base (L2.CX X.prog X.w) k f fd ps (spD B n g)

/-! ### x[i] -/
def XE.ix {B : Bs} (hs : Hd) (a b : XE B) : XE B where
  te := fun Wx σ H Q => a.te Wx σ H fun x H1 => b.te Wx σ H1 fun y H2 => (o_ix B).r x y H2 Q ∨ ownR B hs 2 x [y] H2 Q (WE Wx σ)
  ev := fun Γ s => (a.ev Γ s).bind fun d s1 => (b.ev Γ s1).bind fun e s2 => match d with
    | .ins c fs => match hs.at c with
      | some g => g [.ins c fs, e] s2
      | none => .stuck
    | d => Res.opt (ixF d e) s2
  ok := fun {w F H σ Γ s} Wx e st sl => by
    refine (a.ok Wx e st sl).seq (u := fun x H1 Q => b.te Wx σ H1 fun y H2 => (o_ix B).r x y H2 Q ∨ ownR B hs 2 x [y] H2 Q (WE Wx σ)) fun d s1 v F1 H1 _ a1 st1 r1 => ?_
    refine (b.ok Wx a1.fh st1 (sl.step a1)).seq (u := fun y H2 Q => (o_ix B).r v y H2 Q ∨ ownR B hs 2 v [y] H2 Q (WE Wx σ)) fun d2 s2 v2 F2 H2 _ a2 st2 r2 => ?_
    cases d with
    | ins c fs =>
      show OkE B w F2 H2 σ Wx _ (match hs.at c with
        | some g => g [.ins c fs, d2] s2
        | none => .stuck)
      cases hg : hs.at c with
      | none => trivial
      | some g => exact OkP.imp (ownR_ok g hg rfl a2.fh st2 (r1.mono a2.ff) (reps_cons.mpr ⟨v2, [], rfl, r2, reps_nil.mpr rfl⟩)) fun Q q => .inr q
    | _ => exact OkP.imp (((o_ix B).ok a2.fh (r1.mono a2.ff) r2).toE st2) fun Q q => .inl q
theorem ix_dic {X : Cx} (hu : X.A.units + 1 < cLine) : IxR X rIxDc := by
  intro value slice pins s σ H x y v u Q I rx ry h hs
  obtain ⟨p, z, rfl, g, q⟩ := h
  obtain rfl : v = Value.ref p := rx
  exact tail_any (dict_typeIs I g) PySem.F.slot_dict_getitem.lookup (d_getItem hu I g ry fun w' s3 I3 rw' => ⟨z, H, I3, rw', q⟩) hs
theorem pe_ixU {B : Bs} {X : Cx} {hs : Hd} {k : Nat} {a b : Expr} {ta tb : TE} {pos : Pos} {Wx : WX} (hK : B.K = X.K) (tk : Takes X Wx) (hr : Room (k + 1) X.A) (hM : ∀ c g, hs.at c = some g → OwnM B X k "__getitem__" 2 c g) (ha : PE X a ta) (hb : PE X b tb) (hp : PlainIx b)
    (hsl : ∀ x i, subscripted b true x i = runValue (.builtin "lifetime.subscript" ⟨[x, i], []⟩) := by intro _ _; with_unfolding_all rfl) :
    PE X (.Subscript a b pos) (fun σ H Q => ta σ H fun x H1 => tb σ H1 fun y H2 => (o_ix B).r x y H2 Q ∨ ownR B hs 2 x [y] H2 Q (WE Wx σ)) := by
  refine ⟨fun pins s σ H Q I h => ?_⟩
  refine Subscript_ (binT ha hb I h fun v u s2 x y H2 I2 rx ry q => ?_)
  rcases q with q | ⟨c, g, p, dx, fs, hg, rfl, hp2, q⟩
  · have q' : rIxL X.K x y H2 Q ∨ rIxT X.K x y H2 Q ∨ rIxDc x y H2 Q := by rw [← hK]; exact q
    exact IxR.or ix_list (IxR.or ix_tup (ix_dic (by have := hr.units; omega))) a b pins s2 σ H2 x y v u Q I2 rx ry q' (hp _ _)
  · obtain ⟨f, fd, ps, h1, h2, h3, _, _, h4, _, h5⟩ := (hM c g hg).ex
    cases (show v = Value.ref p from rx)
    obtain ⟨ox, od, J⟩ := inst_of I2 hp2
    obtain ⟨m, fr⟩ := I2.fr
    refine PySem.W.sub_K fr I2.ok.mod.kin J h1 h3 h2 ?_ (hsl _ _)
    exact run_any h5 hr.in1 I2.env0.in1 h4 (passAt tk σ) I2 (.cons (show L2.RelV (.ref p) (.ref p) from rfl) (.cons ry .nil)) q

/-! ### x in y -/
def inE (neg : Bool) (hs : Hd) (d e : D) (s : HS) : Res := match e with
  | .ins c fs => match hs.at c with
    | some g => (g [.ins c fs, d] s).bindB fun b s1 => .ret (.bl (if neg then !b else b)) s1
    | none => .stuck
  | .dic _ kvs => match d with
    | .str x => .ret (.bl (if neg then !(kvs.any fun kv => decide (kv.1 = .inr x)) else kvs.any fun kv => decide (kv.1 = .inr x))) s
    | _ => .stuck
  | e => Res.opt (inF neg d e) s
def inR (B : Bs) (neg : Bool) (hs : Hd) (x y : V) (H : Hp) (Q : VK) (E : XK) : Prop :=
  (o_in B neg).r x y H Q ∨ (∃ p kvs z, y = .ref p ∧ Rd H p (.dK kvs) ∧ x = .str z ∧ Q (.bl (if neg then !(valV kvs (.inr z)).isSome else (valV kvs (.inr z)).isSome)) H) ∨
    ownR B hs 2 y [x] H (fun v H' => ∃ b, v = .bl b ∧ Q (.bl (if neg then !b else b)) H') E
theorem repK_any {B : Bs} {w : Wd} {F : Hp} {k : Key} : ∀ {kvs : List (Key × D)} {xs : List (Key × V)}, RepK B w F kvs xs → (valV xs k).isSome = kvs.any fun kv => decide (kv.1 = k)
  | [], _, r => by rw [repK_nil.mp r]; rfl
  | (k1, d) :: kvs, _, r => by
    obtain ⟨v, xs, rfl, _, h2⟩ := repK_cons.mp r
    have ih := repK_any (k := k) h2
    unfold valV at ih ⊢
    rw [List.find?_cons, List.any_cons]
    by_cases hk : k1 = k
    · rw [decide_eq_true hk]; rfl
    · rw [decide_eq_false hk, Bool.false_or]; exact ih
def XE.in {B : Bs} (neg : Bool) (hs : Hd) (a b : XE B) : XE B where
  te := fun Wx σ H Q => a.te Wx σ H fun x H1 => b.te Wx σ H1 fun y H2 => inR B neg hs x y H2 Q (WE Wx σ)
  ev := fun Γ s => (a.ev Γ s).bind fun d s1 => (b.ev Γ s1).bind fun e s2 => inE neg hs d e s2
  ok := fun {w F H σ Γ s} Wx e st sl => by
    refine (a.ok Wx e st sl).seq (u := fun x H1 Q => b.te Wx σ H1 fun y H2 => inR B neg hs x y H2 Q (WE Wx σ)) fun d s1 v F1 H1 _ a1 st1 r1 => ?_
    refine (b.ok Wx a1.fh st1 (sl.step a1)).seq (u := fun y H2 Q => inR B neg hs v y H2 Q (WE Wx σ)) fun d2 s2 v2 F2 H2 _ a2 st2 r2 => ?_
    have r1' := r1.mono a2.ff
    cases d2 with
    | ins c fs =>
      show OkE B w F2 H2 σ Wx _ (match hs.at c with
        | some g => (g [.ins c fs, d] s2).bindB fun b s1 => .ret (.bl (if neg then !b else b)) s1
        | none => .stuck)
      cases hg : hs.at c with
      | none => trivial
      | some g =>
        have h := ownR_ok (σ := σ) (Wx := Wx) g hg rfl a2.fh st2 r2 (reps_cons.mpr ⟨v, [], rfl, r1', reps_nil.mpr rfl⟩)
        show OkE B w F2 H2 σ Wx _ ((g [.ins c fs, d] s2).bindB fun b s1 => .ret (.bl (if neg then !b else b)) s1)
        cases hr : g [.ins c fs, d] s2 with
        | stuck => trivial
        | exc c1 f1 s3 => rw [hr] at h; exact fun hx Q => .inr (.inr (h hx _))
        | ret z s3 =>
          rw [hr] at h
          cases z with
          | bl b => exact fun Q q => .inr (.inr (h _ fun v' F' H' a' b' c' => ⟨b, rep_bl.mp c', q _ F' H' a' b' (rep_bl.mpr rfl)⟩))
          | _ => trivial
    | dic pl kvs =>
      cases d with
      | str x =>
        cases rep_str.mp r1'
        obtain ⟨p, xs, rfl, h1, h2⟩ := rep_dicE r2
        refine OkP.imp (OkE.pure a2.fh st2 (rep_bl.mpr rfl)) fun Q q => .inr (.inl ⟨p, xs, x, rfl, ex_rd a2.fh h1, rfl, ?_⟩)
        rw [repK_any h2]
        exact q
      | _ => trivial
    | _ => exact OkP.imp (((o_in B neg).ok a2.fh r1' r2).toE st2) fun Q q => .inl q
end Dv

set_option Elab.async false
set_option linter.all false
set_option maxRecDepth 100000
/-! # Own classes: in, len, fields, properties, new instances -/
namespace Dv
open PySem PySem.Spec PyProof.Rows L2 Evl

theorem pe_inU {B : Bs} {X : Cx} {hs : Hd} {k : Nat} {neg : Bool} {op : CmpOp} {a b : Expr} {ta tb : TE} {pos : Pos} {Wx : WX} (hop : op = if neg then .NotIn else .In) (hK : B.K = X.K) (tk : Takes X Wx) (hr : Room k X.A) (hM : ∀ c g, hs.at c = some g → OwnM B X k "__contains__" 2 c g) (ha : PE X a ta) (hb : PE X b tb)
    (hm : behindInMarks op b = false := by with_unfolding_all rfl) :
    PE X (.Compare a [op] [b] pos) (fun σ H Q => ta σ H fun x H1 => tb σ H1 fun y H2 => inR B neg hs x y H2 Q (WE Wx σ)) := by
  refine ⟨fun pins s σ H Q I h => ?_⟩
  refine wpAny_Compare1 (binT ha hb I h fun v u s2 x y H2 I2 rx ry q => ?_) hm
  have hu : X.A.units + 1 < cLine := by have := hr.units; omega
  rcases q with q | ⟨p, kvs, z, rfl, h1, rfl, q⟩ | ⟨c, g, p, dx, fs, hg, rfl, hp2, q⟩
  · have q' : rIn X.K neg x y H2 Q := by rw [← hK]; exact q
    cases neg with
    | false => subst hop; exact op_in_seq pins s2 σ H2 x y v u Q I2 rx ry q'
    | true => subst hop; exact op_notIn_seq pins s2 σ H2 x y v u Q I2 rx ry q'
  · cases (show u = Value.ref p from ry)
    have g : DGet H2 p (.str z) (valV kvs (.inr z)) := .inl ⟨kvs, Sum.inr z, h1, rfl, rfl⟩
    cases neg with
    | false => subst hop; exact d_in hu I2 g rx fun s3 I3 => ⟨.bl _, H2, I3, rfl, q⟩
    | true => subst hop; exact d_notIn hu I2 g rx fun s3 I3 => ⟨.bl _, H2, I3, rfl, q⟩
  · obtain ⟨f, fd, ps, h1, h2, h3, _, _, h4, _, h5⟩ := (hM c g hg).ex
    cases (show u = Value.ref p from ry)
    obtain ⟨ox, od, J⟩ := inst_of I2 hp2
    obtain ⟨m, fr⟩ := I2.fr
    have run := run_any (us := [.ref p, v]) h5 hr I2.env0 h4 (passAt tk σ) I2 (.cons (show L2.RelV (.ref p) (.ref p) from rfl) (.cons rx .nil)) q
    cases neg with
    | false =>
      subst hop
      refine PySem.W.in_K fr I2.ok.mod.kin J h1 h2 (wpAny_mono run (fun r s3 z => ?_) fun _ _ z => z)
      obtain ⟨w', H3, I3, rw', b, rfl, q3⟩ := z
      cases (show r = Value.bool b from rw')
      exact wpAny_truthy_bool ⟨.bl b, H3, I3, rfl, q3⟩
    | true =>
      subst hop
      refine PySem.W.notIn_K fr I2.ok.mod.kin J h1 h2 (wpAny_mono run (fun r s3 z => ?_) fun _ _ z => z)
      obtain ⟨w', H3, I3, rw', b, rfl, q3⟩ := z
      cases (show r = Value.bool b from rw')
      exact wpAny_truthy_bool ⟨.bl (!b), H3, I3, rfl, q3⟩

/-! ### len(x) -/
def lenE (hs : Hd) (d : D) (s : HS) : Res := match d with
  | .ins c fs => match hs.at c with
    | some g => match g [.ins c fs] s with
      | .ret (.int n) s1 => if 0 ≤ n ∧ n < 2 ^ 63 then .ret (.int n) s1 else .stuck
      | _ => .stuck
    | none => .stuck
  | d => Res.opt (lenF d) s
def lenR (B : Bs) (hs : Hd) (xs : List V) (H : Hp) (Q : VK) : Prop :=
  (o_len B).r xs H Q ∨ ∃ x, xs = [x] ∧ ownR B hs 1 x [] H (fun v H' => ∃ n : Int, v = .int n ∧ (0 ≤ n ∧ n < 2 ^ 63) ∧ Q (.int n) H') (fun _ _ _ => False)
def XE.len {B : Bs} (hs : Hd) (p : XE B) : XE B where
  te := fun Wx => tCB (lenR B hs) (tas Wx [p])
  ev := fun Γ s => (p.ev Γ s).bind fun d s1 => lenE hs d s1
  ok := fun {w F H σ Γ s} Wx e st sl => by
    refine (p.ok Wx e st sl).seq (u := fun x H1 Q => lenR B hs [x] H1 Q) fun d s1 v F1 H1 _ a1 st1 r1 => ?_
    cases d with
    | ins c fs =>
      show OkE B w F1 H1 σ Wx _ (match hs.at c with
        | some g => match g [.ins c fs] s1 with
          | .ret (.int n) s1 => if 0 ≤ n ∧ n < 2 ^ 63 then .ret (.int n) s1 else .stuck
          | _ => .stuck
        | none => .stuck)
      cases hg : hs.at c with
      | none => trivial
      | some g =>
        have h := ownR_ok (σ := σ) (Wx := fun _ _ _ _ => False) g hg rfl a1.fh st1 r1 (reps_nil.mpr rfl)
        show OkE B w F1 H1 σ Wx _ (match g [.ins c fs] s1 with
          | .ret (.int n) s1 => if 0 ≤ n ∧ n < 2 ^ 63 then .ret (.int n) s1 else .stuck
          | _ => .stuck)
        cases hr : g [.ins c fs] s1 with
        | stuck => trivial
        | exc c1 f1 s3 => trivial
        | ret z s3 =>
          rw [hr] at h
          cases z with
          | int n =>
            show OkE B w F1 H1 σ Wx _ (if 0 ≤ n ∧ n < 2 ^ 63 then .ret (.int n) s3 else .stuck)
            by_cases hc : 0 ≤ n ∧ n < 2 ^ 63
            · rw [if_pos hc]
              exact fun Q q => .inr ⟨v, rfl, h _ fun v' F' H' a' b' c' => ⟨n, rep_int.mp c', hc, q _ F' H' a' b' (rep_int.mpr rfl)⟩⟩
            · rw [if_neg hc]; trivial
          | _ => trivial
    | _ => exact OkP.imp (((o_len B).ok a1.fh (ds := [_]) (xs := [v]) (reps_cons.mpr ⟨v, [], rfl, r1, reps_nil.mpr rfl⟩)).toE st1) fun Q q => .inl q
theorem call_lenU {B : Bs} {X : Cx} {hs : Hd} {k : Nat} (hK : B.K = X.K) (hr : Room (k + 1) X.A) (hM : ∀ c g, hs.at c = some g → OwnM B X k "__len__" 1 c g) : CallR X (.builtin "len") (lenR B hs) := by
  intro pins s σ H xs us Q I rs h
  rcases h with h | ⟨x, rfl, c, g, p, dx, fs, hg, rfl, hp2, q⟩
  · have h' : (fun xs H (Q : VK) => ∃ x n, xs = [x] ∧ LenV X.K x H n ∧ Q (.int n) H) xs H Q := by rw [← hK]; exact h
    exact call_len pins s σ H xs us Q I rs h'
  · obtain ⟨f, fd, ps, h1, h2, h3, _, _, h4, _, h5⟩ := (hM c g hg).ex
    obtain ⟨u, rfl, ru⟩ := rs.one
    cases (show u = Value.ref p from ru)
    obtain ⟨ox, od, J⟩ := inst_of I hp2
    obtain ⟨m, fr⟩ := I.fr
    refine PySem.W.len_K fr I.ok.mod.kin J h1 h2 (wpAny_mono (run_any (us := [.ref p]) h5 hr.in1 I.env0.in1 h4 (fun _ _ _ _ _ _ z => ?_) I (.cons (show L2.RelV (.ref p) (.ref p) from rfl) .nil) q) (fun r s3 z => ?_) fun _ _ z => z)
    · obtain ⟨_, _, _, _, _, _, _, _, _, _, _, _, w'⟩ := z
      exact w'.elim
    · obtain ⟨w', H3, I3, rw', n, rfl, hc, q3⟩ := z
      obtain ⟨t, rfl⟩ := (show ∃ t, r = Value.int n t from rw')
      exact ⟨hc, .int n, H3, I3.tok _, ⟨_, rfl⟩, q3⟩

/-! ### x.f -/
/-- what an attribute of a class is: stored, or a property by a getter -/
inductive At where
  | fld | prop (g : Gf)
abbrev Ats := List (Str × At)
def Ats.at (hs : Ats) (c : Str) : Option At := (hs.find? fun h => decide (h.1 = c)).map (·.2)
def atR (B : Bs) (hs : Ats) (f : Str) (x : V) (H : Hp) (Q : VK) (E : XK) : Prop :=
  (∃ c p dx fs v, hs.at c = some .fld ∧ x = .ref p ∧ H p = some (.ins (B.ca c) dx fs) ∧ fs.lookup f = some v ∧ Q v H) ∨
    ∃ c g p dx fs, hs.at c = some (.prop g) ∧ x = .ref p ∧ H p = some (.ins (B.ca c) dx fs) ∧ spD B 1 g [x] H Q E
def atE (hs : Ats) (f : Str) (d : D) (s : HS) : Res := match d with
  | .ins c fs => match hs.at c with
    | some .fld => Res.opt (fs.lookup f) s
    | some (.prop g) => g [.ins c fs] s
    | none => .stuck
  | _ => .stuck
theorem repF_lookup {B : Bs} {w : Wd} {F : Hp} {f : Str} {d : D} : ∀ {fs : List (Str × D)} {xs : List (Str × V)}, RepF B w F fs xs → fs.lookup f = some d → ∃ v, xs.lookup f = some v ∧ Rep B w F d v
  | [], _, _, h => by cases h
  | (k, e) :: fs, _, r, h => by
    obtain ⟨v, xs, rfl, h1, h2⟩ := repF_cons.mp r
    unfold List.lookup at h ⊢
    cases hk : f == k with
    | true => rw [hk] at h; cases h; exact ⟨v, rfl, h1⟩
    | false => rw [hk] at h; exact repF_lookup h2 h
def XE.at {B : Bs} (hs : Ats) (f : Str) (p : XE B) : XE B where
  te := fun Wx σ H Q => p.te Wx σ H fun x H1 => atR B hs f x H1 Q (WE Wx σ)
  ev := fun Γ s => (p.ev Γ s).bind fun d s1 => atE hs f d s1
  ok := fun {w F H σ Γ s} Wx e st sl => by
    refine (p.ok Wx e st sl).seq (u := fun x H1 Q => atR B hs f x H1 Q (WE Wx σ)) fun d s1 v F1 H1 _ a1 st1 r1 => ?_
    cases d with
    | ins c fs =>
      obtain ⟨q, dx, xs, rfl, h1, h2⟩ := rep_ins.mp r1
      show OkE B w F1 H1 σ Wx _ (match hs.at c with
        | some .fld => Res.opt (fs.lookup f) s1
        | some (.prop g) => g [.ins c fs] s1
        | none => .stuck)
      cases hg : hs.at c with
      | none => trivial
      | some t =>
        cases t with
        | fld =>
          show OkE B w F1 H1 σ Wx _ (Res.opt (fs.lookup f) s1)
          cases hl : fs.lookup f with
          | none => trivial
          | some d =>
            obtain ⟨v, e1, rv⟩ := repF_lookup h2 hl
            exact OkP.imp (OkE.pure a1.fh st1 rv) fun Q q' => .inl ⟨c, q, dx, xs, v, hg, rfl, a1.fh _ _ h1, e1, q'⟩
        | prop g => exact OkP.imp (spD_use (g := g) (ds := [.ins c fs]) (vs := [.ref q]) rfl a1.fh st1 (reps_cons.mpr ⟨_, _, rfl, r1, reps_nil.mpr rfl⟩)) fun Q q' => .inr ⟨c, g, q, dx, xs, hg, rfl, a1.fh _ _ h1, q'⟩
    | _ => trivial
/-- what the top has made of an attribute -/
def AtOk (B : Bs) (X : Cx) (k : Nat) (f c : Str) : At → Prop
  | .fld => Cls X.K (B.ca c) ∧ NoAttr X.K (B.ca c) f
  | .prop g => Cls X.K (B.ca c) ∧ ∃ p fa fd ps, PropOf X.K (B.ca c) f p fa ∧ Binds X.K fd ps [] ∧ ps.length = 1 ∧ FnOk X.prog X.w X.K X.mg X.base (L2.CX X.prog X.w) k fa fd ps (spD B 1 g)
theorem CXnever {P : Program} {w : World} {o : List Env} {H : Hp} {s s' : Shared} {e : Value} (h : L2.CX P w o H s (fun _ _ _ => False) e s') : False := by
  obtain ⟨_, _, _, _, _, _, _, _, _, _, _, _, z⟩ := h
  exact z
theorem pe_atU {B : Bs} {X : Cx} {hs : Ats} {k : Nat} {f : Str} {e : Expr} {te : TE} {pos : Pos} {Wx : WX} (hr : Room (k + 1) X.A) (hM : ∀ c t, hs.at c = some t → AtOk B X k f c t) (he : PE X e te) (hne : ∀ c g, hs.at c = some (.prop g) → ∀ ds s c' fs s', g ds s ≠ .exc c' fs s')
    (hb : attributeBase e f X.env (eval e X.env) = eval e X.env := by rfl) : PE X (.Attribute e f pos) (fun σ H Q => te σ H fun x H1 => atR B hs f x H1 Q (WE Wx σ)) := by
  refine ⟨fun pins s σ H Q I h => ?_⟩
  refine attr_of hb (thn (he.run pins s σ H _ I h) fun u s1 ⟨x, H1, I1, rx, q⟩ => ?_)
  rcases q with ⟨c, p, dx, fs, v, hc, rfl, hp, hl, q⟩ | ⟨c, g, p, dx, fs, hc, rfl, hp, q⟩
  · obtain ⟨h1, h2⟩ := hM c .fld hc
    obtain rfl : u = Value.ref p := rx
    exact getattr_ok I1 hp h1 h2 hl fun u' s2 I2 ru => ⟨v, H1, I2, ru, q⟩
  · obtain ⟨h1, p', fa, fd, ps, h2, h3, h4, h5⟩ := hM c (.prop g) hc
    obtain rfl : u = Value.ref p := rx
    refine getprop_ok (E := fun _ _ _ => False) I1 hp h1 h2 h5 hr h3 .nil (fun _ _ _ _ _ _ _ z => CXnever z) ?_
    obtain ⟨w, F, ds, s0, k1, k2, k3, k4, k5⟩ := q
    refine ⟨w, F, ds, s0, k1, k2, k3, k4, ?_⟩
    cases hg : g ds s0 with
    | stuck => rw [hg] at k5; exact k5
    | ret d s' => rw [hg] at k5; exact k5
    | exc c' fs' s' => exact absurd hg (hne c g hc ds s0 c' fs' s')
end Dv

set_option Elab.async false
set_option linter.all false
set_option maxRecDepth 100000
/-! # New instances, their __init__, fields stored -/
namespace Dv
open PySem PySem.Spec PyProof.Rows L2 Evl

/-- what __init__ promises: the fields of the new instance -/
def spI (B : Bs) (c : Str) (n : Nat) (g : Gf) : Sp := fun vs H Q E => ∃ (w : Wd) (F : Hp) (ds : List D) (s : HS) (p dx : Addr) (us : List V), vs = .ref p :: us ∧ ds.length = n ∧ Ex F H ∧ StAt w s F H ∧ Reps B w F ds us ∧ H p = some (.ins (B.ca c) dx []) ∧ F p = none ∧ Off w p ∧
  (match g ds s with
  | .ret (.ins c' fs) s' => c' = c ∧ ∀ F' H' dx' xs, Ex F F' → Ex F' H' → (∀ a o, H a = some o → F a = none → Off w a → a ≠ p → F' a = none ∧ H' a = some o) → StAt w s' F' H' → F' p = none → H' p = some (.ins (B.ca c) dx' xs) → RepF B w F' fs xs → Q .non H'
  | .exc c' fs s' => ∀ od F' H', Ex F F' → Ex F' H' → (∀ a o, H a = some o → F a = none → Off w a → a ≠ p → F' a = none ∧ H' a = some o) → StAt w s' F' H' → ExAt B w F' fs od → E (.ref (B.ca c')) od H'
  | _ => False)
theorem spI_len {B : Bs} {c : Str} {n : Nat} {g : Gf} {vs : List V} {H : Hp} {Q : VK} {E : XK} (h : spI B c n g vs H Q E) : vs.length = n + 1 := by
  obtain ⟨w, F, ds, s, p, dx, us, rfl, hl, _, _, r, _⟩ := h
  rw [List.length_cons, r.length, hl]
/-- C(..) -/
def XE.make {B : Bs} (c : Str) (n : Nat) (g : Gf) (ps : List (XE B)) (hn : ps.length = n) (hc : ∀ ds s d s', g ds s = .ret d s' → ∃ fs, d = .ins c fs) : XE B where
  te := fun Wx σ H Q => tas Wx ps σ H fun vs H1 => ∀ x dx, H1 x = none → H1 dx = none → dx ≠ x → spI B c n g (.ref x :: vs) (upd (upd H1 dx (.own x)) x (.ins (B.ca c) dx [])) (fun v H2 => v = .non ∧ Q (.ref x) H2) (WE Wx σ)
  ev := fun Γ s => evs Γ ps s g
  ok := fun {w F H σ Γ s} Wx e st sl => by
    refine evs_ok Wx ps (u := fun vs H1 Q => ∀ x dx, H1 x = none → H1 dx = none → dx ≠ x → spI B c n g (.ref x :: vs) (upd (upd H1 dx (.own x)) x (.ins (B.ca c) dx [])) (fun v H2 => v = .non ∧ Q (.ref x) H2) (WE Wx σ)) e st sl fun ds s1 vs F1 H1 a st1 r hl => ?_
    have prep : ∀ {x dx : Addr}, H1 x = none → H1 dx = none → dx ≠ x → Ex F1 (upd (upd H1 dx (.own x)) x (.ins (B.ca c) dx [])) ∧ StAt w s1 F1 (upd (upd H1 dx (.own x)) x (.ins (B.ca c) dx [])) ∧ F1 x = none ∧ Off w x := fun {x dx} hx hd ne => by
      have e1 : Ex F1 (upd H1 dx (.own x)) := Ex.mut a.fh (fresh_back a.fh hd)
      have s1' := st1.newO (o := .own x) hd
      have hx' : (upd H1 dx (.own x)) x = none := by rw [upd_ne ne.symm]; exact hx
      exact ⟨Ex.mut e1 (fresh_back a.fh hx), s1'.newO hx', fresh_back a.fh hx, Off.fresh st1 hx⟩
    have rest : ∀ {x dx : Addr} {F' H' : Hp}, H1 x = none → H1 dx = none → (∀ b o, (upd (upd H1 dx (.own x)) x (.ins (B.ca c) dx [])) b = some o → F1 b = none → Off w b → b ≠ x → F' b = none ∧ H' b = some o) →
        ∀ b o, H1 b = some o → F1 b = none → Off w b → F' b = none ∧ H' b = some o := fun {x dx F' H'} hx hd k b o h1 h2 h3 => by
      have n1 : b ≠ x := ne_of_none h1 hx
      have n2 : b ≠ dx := ne_of_none h1 hd
      exact k b o (by rw [upd_ne n1, upd_ne n2]; exact h1) h2 h3 n1
    cases hg : g ds s1 with
    | stuck => trivial
    | exc c' fs s' =>
      intro hx Q x dx h1 h2 ne
      obtain ⟨p1, p2, p3, p4⟩ := prep h1 h2 ne
      refine ⟨w, F1, ds, s1, x, dx, vs, rfl, hl.trans hn, p1, p2, r, upd_same, p3, p4, ?_⟩
      rw [hg]
      exact fun od F' H' k1 k2 k3 k4 k5 => hx od F' H' ⟨k1, k2, rest h1 h2 k3⟩ k4 k5
    | ret d s' =>
      obtain ⟨fs, rfl⟩ := hc ds s1 d s' hg
      intro Q q x dx h1 h2 ne
      obtain ⟨p1, p2, p3, p4⟩ := prep h1 h2 ne
      refine ⟨w, F1, ds, s1, x, dx, vs, rfl, hl.trans hn, p1, p2, r, upd_same, p3, p4, ?_⟩
      rw [hg]
      refine ⟨rfl, fun F' H' dx' xs k1 k2 k3 k4 k5 k6 k7 => ⟨rfl, ?_⟩⟩
      have stp : Step w F1 H1 F' H' := ⟨k1, k2, rest h1 h2 k3⟩
      exact q (.ref x) (upd F' x (.ins (B.ca c) dx' xs)) H' (stp.frz h1 k5 k6) (k4.frz p4) (rep_ins.mpr ⟨x, dx', xs, rfl, upd_same, k7.mono (Ex.new k5)⟩)
theorem pe_makeU {B : Bs} {X : Cx} {c x : Str} {n k : Nat} {g : Gf} {f : Addr} {fd : FuncData} {ps : List Str} {e : Expr} {es : List Expr} {t : TA} {p pos : Pos} {Wx : WX} (hK : B.K = X.K) (tk : Takes X Wx) (M : Mk X.K (B.ca c) f) (Fn : FnOk X.prog X.w X.K X.mg X.base (L2.CX X.prog X.w) k f fd ps (spI B c n g)) (hr : Room (k + 1) X.A)
    (hg : Gl X x) (hm : X.mg x = some (.ref (B.ca c))) (hb : Binds X.K fd ps []) (ha : PA X (e :: es) t) (hdb : (x == ("__debug__" : Str)) = false := by decide) (he : starEach (e :: es) X.env = (false, eval e X.env) :: starEach es X.env := by rfl) (hpl : (backTo pos (starEach es X.env)).any (·.1) = false := by rfl) :
    PE X (.Call (.Name x p) (e :: es) [] pos) (fun σ H Q => t σ H fun vs H1 => ∀ y dx, H1 y = none → H1 dx = none → dx ≠ y → spI B c n g (.ref y :: vs) (upd (upd H1 dx (.own y)) y (.ins (B.ca c) dx [])) (fun v H2 => v = .non ∧ Q (.ref y) H2) (WE Wx σ)) := by
  refine ⟨fun pins s σ H Q I h => ?_⟩
  refine wpAny_Call_Name_kw (ld_glob I hg hm ?_ hdb)
  refine PySem.W.callWith_K (h₀ := X.base) I.ok.mod.kin M.kp (thn (ha.run pos pins s σ H _ I h) fun us s1 ⟨vs, H1, I1, r, q⟩ => ⟨I1.kIn, ?_⟩) he hpl
  have hq := q (s1.heap.objs.size + 1) s1.heap.objs.size (I1.hok.fresh (Nat.le_succ _)) (I1.hok.fresh (Nat.le_refl _)) (Nat.ne_of_lt (Nat.lt_succ_self _))
  have I2 := Inv.made (C := B.ca c) I1
  have r2 : Vals (V.ref (s1.heap.objs.size + 1) :: vs) (Value.ref (s1.heap.objs.size + 1) :: us) := .cons (show L2.RelV (.ref _) (.ref _) from rfl) r
  have len : (Value.ref (s1.heap.objs.size + 1) :: us).length = ps.length := by
    rw [← r2.length]
    exact Fn.len _ _ _ _ hq
  have bt := hb _ (Value.ref (s1.heap.objs.size + 1) :: us) I2.kIn (by rw [List.append_nil]; exact len)
  rw [List.append_nil] at bt
  refine wpAny_call (make_map (f := f) I1.kIn M.makes M.init (beq_iff_eq.mp M.fn) (codeAny_mono (Fn.run _ X.stack _ _ ⟨Value.ref (s1.heap.objs.size + 1) :: us, []⟩ _ _ _ (WE Wx σ) (hr.make (B.ca c) us []) (I2.env0.make (B.ca c) us []) bt r2 hq) fun rr s' z => ?_))
  cases rr with
  | error x => exact passAt tk σ pins _ _ x s' I2 z
  | ok fl =>
    cases fl with
    | ret u =>
      obtain ⟨v, H', I3, rv, ev, q3⟩ := I2.after z
      subst ev
      exact ⟨rv, ⟨.ref (s1.heap.objs.size + 1), H', I3, rfl, q3⟩⟩
    | _ => exact z.elim

/-! ### the body of an __init__ -/
def Out.ini (o : Out) : Res := match o with
  | .nxt Γ s => match (Γ[0]? : Option Sl) with
    | some (.io c fs) => .ret (.ins c fs) s
    | _ => .stuck
  | .exc c fs _ s => .exc c fs s
  | _ => .stuck
def XS.ini {B : Bs} (p : XS B) (c : Str) (m : Nat) : Gf := fun ds s => match (p.ev (.io c [] :: (ds.map Sl.fr ++ List.replicate (m - (ds.length + 1)) Sl.no)) s).ini with
  | .ret (.ins c' fs) s' => if c' = c then .ret (.ins c' fs) s' else .stuck
  | .exc c' fs s' => .exc c' fs s'
  | _ => .stuck
theorem XS.ini_ins {B : Bs} {p : XS B} {c : Str} {m : Nat} (ds : List D) (s : HS) (d : D) (s' : HS) (h : p.ini c m ds s = .ret d s') : ∃ fs, d = .ins c fs := by
  unfold XS.ini at h
  split at h
  · split at h
    · rename_i hc
      cases h
      exact ⟨_, by rw [hc]⟩
    · cases h
  · cases h
  · cases h
open Classical in
theorem ini_ok {B : Bs} {c : Str} {n : Nat} {N : List Str} {p : XS B} {vs : List V} {H : Hp} {Q : VK} {E : XK} (h : spI B c n (p.ini c N.length) vs H Q E) :
    (p.ts fun cls d _ H => E cls d H) { nx := fun _ H' => Q .non H', rt := Q } (L2.start N vs) H := by
  obtain ⟨w, F, ds, s, q, dx, us, rfl, hl, e, st, r, hp, hF, hO, hm⟩ := h
  have hlen := r.length
  obtain ⟨Z, hZ⟩ : ∃ Z : Hp, Z = fun a => if F a = none ∧ Off w a ∧ a ≠ q then H a else none := ⟨_, rfl⟩
  have zof : ∀ {a : Addr} {o : HO}, Z a = some o → F a = none ∧ H a = some o ∧ Off w a ∧ a ≠ q := fun {a o} hz => by
    rw [hZ] at hz
    by_cases hc : F a = none ∧ Off w a ∧ a ≠ q
    · have h' : (if F a = none ∧ Off w a ∧ a ≠ q then H a else none) = some o := hz
      rw [if_pos hc] at h'
      exact ⟨hc.1, h', hc.2⟩
    · have h' : (if F a = none ∧ Off w a ∧ a ≠ q then H a else none) = some o := hz
      rw [if_neg hc] at h'; cases h'
  have zmk : ∀ {a : Addr} {o : HO}, H a = some o → F a = none → Off w a → a ≠ q → Z a = some o := fun {a o} h1 h2 h3 h4 => by
    rw [hZ]
    show (if F a = none ∧ Off w a ∧ a ≠ q then H a else none) = some o
    rw [if_pos ⟨h2, h3, h4⟩]
    exact h1
  have zq : Z q = none := by
    cases hz : Z q with
    | none => rfl
    | some o => exact absurd rfl (zof hz).2.2.2
  have own0 : ∀ {i : Nat} {t : Sl}, (Sl.io c [] :: (ds.map Sl.fr ++ List.replicate (N.length - (ds.length + 1)) Sl.no))[i]? = some t → owned t = true → i = 0 := fun {i t} h1 h2 => by
    cases i with
    | zero => rfl
    | succ i =>
      exfalso
      rw [List.getElem?_cons_succ] at h1
      by_cases hi : i < ds.length
      · rw [List.getElem?_append_left (by simpa using hi), List.getElem?_map] at h1
        cases hd : ds[i]? with
        | none => rw [hd] at h1; cases h1
        | some d => rw [hd] at h1; cases h1; cases h2
      · rw [List.getElem?_append_right (by simp; omega), List.getElem?_replicate] at h1
        split at h1
        · cases h1; cases h2
        · cases h1
  have g : Good B w ⟨Z, q⟩ F H (L2.start N (.ref q :: us)) (Sl.io c [] :: (ds.map Sl.fr ++ List.replicate (N.length - (ds.length + 1)) Sl.no)) s := by
    refine ⟨e, st, fun i t h1 => ?_, fun a o hz => ⟨(zof hz).1, (zof hz).2.1, (zof hz).2.2.1⟩, fun i t p h1 h2 h3 => ?_, fun i j t u p h1 h1' h2 h2' _ _ => ?_, ?_, fun c fs _ => ?_⟩
    · unfold L2.start
      cases i with
      | zero =>
        cases h1
        exact ⟨some (.ref q), by simp, q, dx, [], rfl, hF, hO, hp, repF_nil.mpr rfl⟩
      | succ i =>
        rw [List.getElem?_cons_succ] at h1
        by_cases hi : i < ds.length
        · rw [List.getElem?_append_left (by simpa using hi), List.getElem?_map] at h1
          cases hd : ds[i]? with
          | none => rw [hd] at h1; cases h1
          | some d =>
            rw [hd] at h1
            cases h1
            obtain ⟨v, k1, k2⟩ := r.get hd
            refine ⟨some v, ?_, v, rfl, k2⟩
            rw [List.map_cons, List.cons_append, List.getElem?_cons_succ, List.getElem?_append_left (by simp; omega), List.getElem?_map, k1] <;> rfl
        · rw [List.getElem?_append_right (by simp; omega), List.getElem?_replicate] at h1
          split at h1
          · cases h1
            refine ⟨none, ?_, trivial⟩
            rw [List.map_cons, List.cons_append, List.getElem?_cons_succ, List.getElem?_append_right (by simp; omega), List.getElem?_replicate, if_pos (by simp at *; omega)]
          · cases h1
    · have hi := own0 h1 h2
      subst hi
      unfold L2.start at h3
      have : p = q := by simpa using h3.symm
      rw [this]; exact zq
    · rw [own0 h1 h2, own0 h1' h2']
    · unfold L2.start
      simp [hlen]
    · unfold L2.start
      simp
  have z := p.ok (fun cls d _ H => E cls d H) { nx := fun _ H' => Q .non H', rt := Q } g
  have keep : ∀ {F' H' : Hp} {s' : HS}, Gone B w ⟨Z, q⟩ F' H' s' → ∀ a o, H a = some o → F a = none → Off w a → a ≠ q → F' a = none ∧ H' a = some o := fun {F' H' s'} g' a o h1 h2 h3 h4 =>
    let ⟨k1, k2, _⟩ := g'.zz a o (zmk h1 h2 h3 h4); ⟨k1, k2⟩
  unfold XS.ini at hm
  cases ho : p.ev (Sl.io c [] :: (ds.map Sl.fr ++ List.replicate (N.length - (ds.length + 1)) Sl.no)) s with
  | exc c' fs Γ s' =>
    rw [ho] at z hm
    exact z fun od F' H' σ' e' g' x => hm od F' H' e' g'.fh (keep g'.gone) g'.st x
  | nxt Γ s' =>
    rw [ho] at z hm
    refine z fun F' H' σ' e' g' => ?_
    have hm2 : (match (match (match (Γ[0]? : Option Sl) with
        | some (.io c fs) => Res.ret (.ins c fs) s'
        | _ => .stuck) with
      | .ret (.ins c' fs) s' => if c' = c then Res.ret (.ins c' fs) s' else .stuck
      | .exc c' fs s' => .exc c' fs s'
      | _ => .stuck) with
      | .ret (.ins c' fs) s' => c' = c ∧ ∀ F' H' dx' xs, Ex F F' → Ex F' H' → (∀ a o, H a = some o → F a = none → Off w a → a ≠ q → F' a = none ∧ H' a = some o) → StAt w s' F' H' → F' q = none → H' q = some (.ins (B.ca c) dx' xs) → RepF B w F' fs xs → Q .non H'
      | .exc c' fs s' => ∀ od F' H', Ex F F' → Ex F' H' → (∀ a o, H a = some o → F a = none → Off w a → a ≠ q → F' a = none ∧ H' a = some o) → StAt w s' F' H' → ExAt B w F' fs od → E (.ref (B.ca c')) od H'
      | _ => False) := hm
    cases h0 : (Γ[0]? : Option Sl) with
    | none => rw [h0] at hm2; exact hm2.elim
    | some t =>
      rw [h0] at hm2
      cases t with
      | io c' fs =>
        have hm3 : (match (if c' = c then Res.ret (.ins c' fs) s' else .stuck) with
          | .ret (.ins c' fs) s' => c' = c ∧ ∀ F' H' dx' xs, Ex F F' → Ex F' H' → (∀ a o, H a = some o → F a = none → Off w a → a ≠ q → F' a = none ∧ H' a = some o) → StAt w s' F' H' → F' q = none → H' q = some (.ins (B.ca c) dx' xs) → RepF B w F' fs xs → Q .non H'
          | .exc c' fs s' => ∀ od F' H', Ex F F' → Ex F' H' → (∀ a o, H a = some o → F a = none → Off w a → a ≠ q → F' a = none ∧ H' a = some o) → StAt w s' F' H' → ExAt B w F' fs od → E (.ref (B.ca c')) od H'
          | _ => False) := hm2
        by_cases hc : c' = c
        · rw [if_pos hc] at hm3
          subst hc
          obtain ⟨x, h1, h2⟩ := g'.sl 0 _ h0
          rw [g'.me _ _ h0] at h1
          cases h1
          obtain ⟨p', dx', xs, e1, e2, e3, e4, e5⟩ := h2
          cases e1
          exact hm3.2 F' H' dx' xs e' g'.fh (keep g'.gone) g'.st e2 e4 e5
        · rw [if_neg hc] at hm3; exact hm3.elim
      | _ => exact hm2.elim
  | _ => rw [ho] at hm; exact hm.elim
section
variable {P : Program} {w : World} {mg : Str → Option Value} {base : Heap}
/-- THE RULE for an __init__ -/
theorem init_ok {B : Bs} {x qual : Str} {st : Stmt} {f : Addr} {fd : FuncData} {N ps : List Str} {k n : Nat} {c : Str} {g : Gf} {p : XS B} (Fn : Fun B.K x qual st f fd) (S : FnScope N ps (defScope st)) (hn : ps.length = n + 1) (hg : g = p.ini c N.length)
    (hb : ∀ (cdv : Value) (A : Around) (outer : List Env) (s : Shared) (H : Hp) (E : XK), Room k (A.deeper (envOfC qual (defScope st) s.heap.objs.size f cdv)) →
      PSs (cxOf (L2.CX P w) P w B.K mg base N qual (defScope st) f cdv A outer s H E) (defBody st) (p.ts fun cls d _ H => E cls d H)) :
    FnOk P w B.K mg base (L2.CX P w) (k + 1) f fd ps (spI B c n g) := by
  subst hg
  exact Fn.okX S (fun vs H Q E h => by rw [spI_len h, hn]) fun cdv A outer s H vs Q E hr h => ⟨_, hb cdv A outer s H E hr, ini_ok h⟩
end

/-- self.f = e, while the instance is being made -/
def putD (f : Str) (d : D) : List (Str × D) → List (Str × D)
  | [] => [(f, d)]
  | (g, x) :: r => if g = f then (g, d) :: r else (g, x) :: putD f d r
theorem RepF.put {B : Bs} {w : Wd} {F : Hp} {f : Str} {d : D} {v : V} (r : Rep B w F d v) : ∀ {fs : List (Str × D)} {xs : List (Str × V)}, RepF B w F fs xs → RepF B w F (putD f d fs) (putF f v xs)
  | [], _, h => by
    rw [repF_nil.mp h]
    exact repF_cons.mpr ⟨v, [], rfl, r, repF_nil.mpr rfl⟩
  | (g, x) :: fs, _, h => by
    obtain ⟨u, xs, rfl, h1, h2⟩ := repF_cons.mp h
    show RepF B w F (if g = f then (g, d) :: fs else (g, x) :: putD f d fs) (if g = f then (g, v) :: xs else (g, u) :: putF f v xs)
    by_cases hc : g = f
    · rw [if_pos hc, if_pos hc]; exact repF_cons.mpr ⟨v, xs, rfl, r, h2⟩
    · rw [if_neg hc, if_neg hc]; exact repF_cons.mpr ⟨u, _, rfl, h1, RepF.put r h2⟩
theorem RepF.length {B : Bs} {w : Wd} {F : Hp} : ∀ {fs : List (Str × D)} {xs : List (Str × V)}, RepF B w F fs xs → xs.length = fs.length
  | [], _, h => by rw [repF_nil.mp h] <;> rfl
  | (g, x) :: fs, _, h => by
    obtain ⟨u, xs, rfl, h1, h2⟩ := repF_cons.mp h
    rw [List.length_cons, List.length_cons, RepF.length h2]
/-- o.f = e, o of the class c -/
def tSetC (B : Bs) (c f : Str) (ta tv : TE) : TS := fun D σ H => tv σ H fun y H1 => ta σ H1 fun x H2 => ∃ (a dx : Addr) (fs : List (Str × V)), x = .ref a ∧ H2 a = some (.ins (B.ca c) dx fs) ∧ fs.length < 1000 ∧ D.nx σ (upd H2 a (.ins (B.ca c) dx (putF f y fs)))
/-- what is wanted may be less than what comes -/
def tMo (t : TE) : TE := fun σ H Q => ∃ R : VK, t σ H R ∧ ∀ x H1, R x H1 → Q x H1
theorem pe_mo {X : Cx} {e : Expr} {t : TE} (h : PE X e t) : PE X e (tMo t) := ⟨fun pins s σ H Q I ⟨R, q, i⟩ => thn (h.run pins s σ H R I q) fun u s1 ⟨x, H1, I1, r1, q1⟩ => ⟨x, H1, I1, r1, i x H1 q1⟩⟩
theorem ps_setC {B : Bs} {X : Cx} {c f : Str} {o value : Expr} {ta tv : TE} {pos pos' : Pos} (hK : B.K = X.K) (h : Cls B.K (B.ca c) ∧ NoAttr B.K (B.ca c) f) (ha : PE X o ta) (hv : PE X value tv) (hs : swapsWith value (some (.Attribute o f pos')) pos.line X.env = pure false) :
    PS X (.Assign [.Attribute o f pos'] value pos) (tSetC B c f ta tv) := by
  refine ⟨fun pins s σ H D I q => (ps_fld (pe_mo ha) (pe_mo hv) hs).run pins s σ H D I ⟨_, q, fun y H1 q1 => ⟨_, q1, fun x H2 q2 => ?_⟩⟩⟩
  obtain ⟨a, dx, fs, e, h1, h2, q3⟩ := q2
  rw [hK] at h
  exact ⟨a, B.ca c, dx, fs, e, h1, h.1, h.2, h2, q3⟩
def XS.setF {B : Bs} (c f : Str) (i : Nat) (p : XE B) : XS B where
  ts := fun Wx => tSetC B c f (tVar i) (p.te Wx)
  ev := fun Γ s => match (Γ[i]? : Option Sl) with
    | some (.io c' fs) => if c' = c ∧ fs.length < 1000 then (p.ev Γ s).out Γ fun d s1 => .nxt (Γ.set i (.io c (putD f d fs))) s1 else .stuck
    | _ => .stuck
  ok := fun {w Z F H σ Γ s} Wx D' g => by
    cases hi : (Γ[i]? : Option Sl) with
    | none => trivial
    | some t =>
      cases t with
      | io c' fs =>
        show OkS B w Z F Wx D' _ (if c' = c ∧ fs.length < 1000 then (p.ev Γ s).out Γ fun d s1 => .nxt (Γ.set i (.io c (putD f d fs))) s1 else .stuck)
        by_cases hc : c' = c ∧ fs.length < 1000
        · rw [if_pos hc]
          obtain ⟨rfl, hl⟩ := hc
          obtain ⟨x, h1, q, dx, xs, e1, e2, e3, e4, e5⟩ := g.sl i _ hi
          subst e1
          refine OkE.stm (D' := D') (u := fun v H1 => tVar i σ H1 fun x H2 => ∃ (a dx : Addr) (fs : List (Str × V)), x = .ref a ∧ H2 a = some (.ins (B.ca c') dx fs) ∧ fs.length < 1000 ∧ D'.nx σ (upd H2 a (.ins (B.ca c') dx (putF f v fs)))) (k := fun d s1 => .nxt (Γ.set i (.io c' (putD f d fs))) s1) g (p.ok Wx g.fh g.st g.sl) fun d s1 v F1 H1 _ a g1 r => ?_
          obtain ⟨k1, k2⟩ := a.rest q _ e4 e2 e3
          exact fun k => ⟨.ref q, h1, q, dx, xs, rfl, k2, by rw [e5.length]; exact hl, k F1 _ σ (Ex.refl F1) (g1.upd (fun _ _ _ => ⟨c', fs, rfl⟩) hi rfl h1 k1 e3 ⟨q, dx, putF f v xs, rfl, k1, e3, upd_same, (e5.mono a.ff).put r⟩)⟩
        · rw [if_neg hc]; trivial
      | _ => trivial
end Dv

set_option Elab.async false
set_option linter.all false
set_option maxRecDepth 100000
/-! # Errors: raise, try -/
namespace Dv
open PySem PySem.Spec PyProof.Rows L2 Evl

/-- raise C(e), C without an __init__ of its own -/
def XS.rz {B : Bs} (c : Str) (p : XE B) : XS B where
  ts := fun Wx _ σ H => p.te Wx σ H fun _ H1 => Wx (.ref (B.ca c)) none σ H1
  ev := fun Γ s => (p.ev Γ s).out Γ fun _ s1 => .exc c [] Γ s1
  ok := fun {w Z F H σ Γ s} Wx D' g => OkE.stm g (p.ok Wx g.fh g.st g.sl) (u := fun _ H1 => Wx (.ref (B.ca c)) none σ H1) fun d s1 v F1 H1 _ a g1 r => fun k => k none F1 H1 σ (Ex.refl F1) g1 rfl
/-- the fields that an error's __init__ stores, the last one first -/
def rzD (fns : List Str) (ds : List D) : List (Str × D) := (fns.zip ds).reverse
def rzV (fns : List Str) (vs : List V) : List (Str × V) := (fns.zip vs).reverse
theorem repF_append {B : Bs} {w : Wd} {F : Hp} : ∀ {a b : List (Str × D)} {x y : List (Str × V)}, RepF B w F a x → RepF B w F b y → RepF B w F (a ++ b) (x ++ y)
  | [], _, _, _, h, k => by rw [repF_nil.mp h]; exact k
  | (f, d) :: a, _, _, _, h, k => by
    obtain ⟨v, xs, rfl, h1, h2⟩ := repF_cons.mp h
    exact repF_cons.mpr ⟨v, _, rfl, h1, repF_append h2 k⟩
theorem repF_zip {B : Bs} {w : Wd} {F : Hp} : ∀ {fns : List Str} {ds : List D} {vs : List V}, Reps B w F ds vs → RepF B w F (rzD fns ds) (rzV fns vs)
  | [], ds, vs, r => repF_nil.mpr rfl
  | f :: fns, [], vs, r => by rw [reps_nil.mp r]; exact repF_nil.mpr rfl
  | f :: fns, d :: ds, vs, r => by
    obtain ⟨v, us, rfl, h1, h2⟩ := reps_cons.mp r
    unfold rzD rzV
    rw [List.zip_cons_cons, List.zip_cons_cons, List.reverse_cons, List.reverse_cons]
    exact repF_append (repF_zip h2) (repF_cons.mpr ⟨v, [], rfl, h1, repF_nil.mpr rfl⟩)
/-- its __init__'s promise -/
def spX (C : Addr) (fns : List Str) : Sp := fun vs H Q _ => ∃ (a : Addr) (ws : List V), vs = .ref a :: ws ∧ ws.length = fns.length ∧ H a = some (exo a C none) ∧ ∀ d, H d = none → d ≠ a → Q .non (upd (upd H d (exd d (rzV fns ws))) a (exo a C (some d)))
/-- several values, then a statement's end -/
def evsO {B : Bs} (Γ : Gm) : List (XE B) → HS → (List D → HS → Out) → Out
  | [], s, k => k [] s
  | p :: ps, s, k => (p.ev Γ s).out Γ fun d s1 => evsO Γ ps s1 fun ds s2 => k (d :: ds) s2
theorem evsO_ok {B : Bs} {w : Wd} {Z : Zs} {σ : L2.St} {Γ : Gm} {Wx : WX} {D' : Ends} : ∀ (ps : List (XE B)) {F H : Hp} {s : HS} {k : List D → HS → Out} {u : List V → Hp → Prop}, Good B w Z F H σ Γ s →
    (∀ ds s1 vs F1 H1, Step w F H F1 H1 → Good B w Z F1 H1 σ Γ s1 → Reps B w F1 ds vs → ds.length = ps.length → OkS B w Z F1 Wx D' (u vs H1) (k ds s1)) → OkS B w Z F Wx D' (tas Wx ps σ H fun vs H1 => u vs H1) (evsO Γ ps s k)
  | [], F, H, s, k, u, g, hk => hk [] s [] F H (Step.refl g.fh) g (reps_nil.mpr rfl) rfl
  | p :: ps, F, H, s, k, u, g, hk => by
    refine OkE.stm g (p.ok Wx g.fh g.st g.sl) (u := fun x H1 => tas Wx ps σ H1 fun xs H2 => u (x :: xs) H2) fun d s1 v F1 H1 _ a g1 r1 => ?_
    refine evsO_ok ps (u := fun xs H2 => u (v :: xs) H2) g1 fun ds s2 vs F2 H2 a2 g2 r2 hl => ?_
    exact hk (d :: ds) s2 (v :: vs) F2 H2 (a.trans a2) g2 (reps_cons.mpr ⟨v, vs, rfl, r1.mono a2.ff, r2⟩) (by simp [hl])
/-- raise C(e, ..) -/
def XS.rf {B : Bs} (c : Str) (fns : List Str) (hf : fns ≠ []) (ps : List (XE B)) (hn : ps.length = fns.length) (hz : ps.length ≤ 100) : XS B where
  ts := fun Wx _ σ H => tMkO (B.ca c) (spX (B.ca c) fns) [] (tas Wx ps) σ H fun cls d H' => Wx cls d σ H'
  ev := fun Γ s => evsO Γ ps s fun ds s1 => .exc c (rzD fns ds) Γ s1
  ok := fun {w Z F H σ Γ s} Wx D' g => by
    refine evsO_ok ps (u := fun vs H1 => vs.length ≤ 1000 ∧ ∀ a, H1 a = none → spX (B.ca c) fns (.ref a :: (vs ++ [])) (upd H1 a (exo a (B.ca c) none)) (fun v H2 => v = .non ∧ ∃ (d : Addr) (fs : List (Str × V)), H2 a = some (exo a (B.ca c) (some d)) ∧ H2 d = some (exd d fs) ∧ H1 d = none ∧ Wx (.ref (B.ca c)) (some d) σ (upd (del H2 a) d (.xd fs))) (fun _ _ _ => False)) g fun ds s1 vs F1 H1 a g1 r hl => ?_
    refine fun k => ⟨by rw [r.length]; omega, fun ea hea => ⟨ea, vs, by rw [List.append_nil], by rw [r.length, hl, hn], upd_same, fun d hd hne => ⟨rfl, d, rzV fns vs, upd_same, ?_, ?_, ?_⟩⟩⟩
    · rw [upd_ne hne, upd_same]
    · rw [upd_ne hne] at hd; exact hd
    · have hd1 : H1 d = none := by rw [upd_ne hne] at hd; exact hd
      have e : upd (del (upd (upd (upd H1 ea (exo ea (B.ca c) none)) d (exd d (rzV fns vs))) ea (exo ea (B.ca c) (some d))) ea) d (.xd (rzV fns vs)) = upd H1 d (.xd (rzV fns vs)) := by
        funext b
        by_cases hb : b = d
        · subst hb; rw [upd_same, upd_same]
        · rw [upd_ne hb, upd_ne hb]
          by_cases hb2 : b = ea
          · subst hb2; rw [del_same]; exact hea.symm
          · rw [del_ne hb2, upd_ne hb2, upd_ne hb, upd_ne hb2]
      rw [e]
      have stp : Step w F1 H1 (upd F1 d (.xd (rzV fns vs))) (upd H1 d (.xd (rzV fns vs))) := Step.new g1.fh hd1
      have g2 := g1.step stp (g1.st.new hd1)
      refine k (some d) _ _ σ stp.ff g2 ?_
      have rf := (repF_zip (fns := fns) r).mono stp.ff
      cases hrz : rzD fns ds with
      | nil =>
        exfalso
        have hl2 : (rzD fns ds).length = fns.length := by
          unfold rzD
          rw [List.length_reverse, List.length_zip, hl, hn, Nat.min_self]
        rw [hrz] at hl2
        exact hf (List.eq_nil_of_length_eq_zero hl2.symm)
      | cons f fs =>
        rw [hrz] at rf
        exact ⟨d, _, rfl, upd_same, rf⟩

/-! ### try -/
/-- try: body / except C as e: return e.f -/
def XS.tryF {B : Bs} (c f : Str) (i : Nat) (b : XS B) (hx : PySem.W.exmOne B.K (.ref (B.ca c)) (.ref (B.ca c)) = some true) : XS B where
  ts := fun Wx D σ H => b.ts (wAs B.K (.ref (B.ca c)) i (fun a cls d => tRet (tXf a cls d (B.ca c) f (tVar i))) Wx D) D σ H
  ev := fun Γ s => match b.ev Γ s with
    | .exc c' fs Γ' s' => if c' = c ∧ i < Γ'.length then (match fs.lookup f with
      | some d => .ret d s'
      | none => .stuck) else .stuck
    | o => o
  ok := fun {w Z F H σ Γ s} Wx D' g => by
    have h := b.ok (wAs B.K (.ref (B.ca c)) i (fun a cls d => tRet (tXf a cls d (B.ca c) f (tVar i))) Wx D') D' g
    cases ho : b.ev Γ s with
    | exc c' fs Γ' s' =>
      rw [ho] at h
      show OkS B w Z F Wx D' _ (if c' = c ∧ i < Γ'.length then (match fs.lookup f with
        | some d => .ret d s'
        | none => .stuck) else .stuck)
      by_cases hc : c' = c ∧ i < Γ'.length
      · rw [if_pos hc]
        obtain ⟨rfl, hi⟩ := hc
        cases hl : fs.lookup f with
        | none => trivial
        | some d =>
          refine fun k => h fun od F' H' σ' e' g' x => ⟨true, hx, fun _ a ha => ?_, fun z => nomatch z⟩
          cases fs with
          | nil => cases hl
          | cons f0 fs =>
            obtain ⟨dd, xs, rfl, h1, h2⟩ := x
            obtain ⟨v, e1, rv⟩ := repF_lookup h2 hl
            exact ⟨.ref a, by rw [List.getElem?_set_self (by rw [g'.ln]; exact hi)], rfl, rfl, dd, xs, v, rfl, g'.fh _ _ h1, e1, k v F' H' e' g'.gone rv⟩
      · rw [if_neg hc]; trivial
    | stuck => trivial
    | nxt _ _ => rw [ho] at h; exact h
    | brk _ _ => rw [ho] at h; exact h
    | cnt _ _ => rw [ho] at h; exact h
    | ret _ _ => rw [ho] at h; exact h
/-- try: body / except C: suite -/
def XS.try {B : Bs} (c : Str) (b p : XS B) (hx : PySem.W.exmOne B.K (.ref (B.ca c)) (.ref (B.ca c)) = some true) : XS B where
  ts := fun Wx D σ H => b.ts (wOnly B.K (.ref (B.ca c)) (fun _ _ _ => p.ts W0) Wx D) D σ H
  ev := fun Γ s => match b.ev Γ s with
    | .exc c' fs Γ' s' => if c' = c then (match p.ev Γ' s' with
      | .exc _ _ _ _ => .stuck
      | o => o) else .stuck
    | o => o
  ok := fun {w Z F H σ Γ s} Wx D' g => by
    have h := b.ok (wOnly B.K (.ref (B.ca c)) (fun _ _ _ => p.ts W0) Wx D') D' g
    cases ho : b.ev Γ s with
    | exc c' fs Γ' s' =>
      rw [ho] at h
      show OkS B w Z F Wx D' _ (if c' = c then (match p.ev Γ' s' with
        | .exc _ _ _ _ => .stuck
        | o => o) else .stuck)
      by_cases hc : c' = c
      · rw [if_pos hc]
        subst hc
        have hp := fun F' H' σ' (e' : Ex F F') (g' : Good B w Z F' H' σ' Γ' s') => (p.ok W0 D' g').back e'
        have go : ∀ {t : Prop}, ((∀ F' H' σ', Ex F F' → Good B w Z F' H' σ' Γ' s' → p.ts W0 D' σ' H') → t) → (b.ts (wOnly B.K (.ref (B.ca c')) (fun _ _ _ => p.ts W0) Wx D') D' σ H → t) → True := fun _ _ => trivial
        have run : (∀ F' H' σ', Ex F F' → Good B w Z F' H' σ' Γ' s' → p.ts W0 D' σ' H') → b.ts (wOnly B.K (.ref (B.ca c')) (fun _ _ _ => p.ts W0) Wx D') D' σ H := fun q =>
          h fun od F' H' σ' e' g' x => ⟨true, hx, fun _ a ha => q F' H' σ' e' g', fun z => nomatch z⟩
        cases hq : p.ev Γ' s' with
        | exc _ _ _ _ => trivial
        | stuck => trivial
        | nxt _ _ => exact fun k => run fun F' H' σ' e' g' => by have z := hp F' H' σ' e' g'; rw [hq] at z; exact z k
        | brk _ _ => exact fun k => run fun F' H' σ' e' g' => by have z := hp F' H' σ' e' g'; rw [hq] at z; exact z k
        | cnt _ _ => exact fun k => run fun F' H' σ' e' g' => by have z := hp F' H' σ' e' g'; rw [hq] at z; exact z k
        | ret _ _ => exact fun k => run fun F' H' σ' e' g' => by have z := hp F' H' σ' e' g'; rw [hq] at z; exact z k
      · rw [if_neg hc]; trivial
    | stuck => trivial
    | nxt _ _ => rw [ho] at h; exact h
    | brk _ _ => rw [ho] at h; exact h
    | cnt _ _ => rw [ho] at h; exact h
    | ret _ _ => rw [ho] at h; exact h
end Dv

set_option Elab.async false
set_option linter.all false
set_option maxRecDepth 100000
/-! # Comparisons that run own defs -/
namespace Dv
open PySem PySem.Spec PyProof.Rows L2 Evl

/-- a comparison by values, at the slots as they stand -/
def OpE (X : Cx) (Wx : WX) (f : Value → Value → Sem Value) (r : V → V → Hp → VK → XK → Prop) : Prop :=
  ∀ (pins : List (Addr × Obj)) (s : Shared) (σ : L2.St) (H : Hp) (x y : V) (v u : Value) (Q : VK), Inv X pins σ H s → L2.RelV x v → L2.RelV y u → r x y H Q (WE Wx σ) → wpAny (model X.prog X.w) X.A (f v u) (EP X pins σ Q) X.xe s
theorem pe_cmpE {X : Cx} {Wx : WX} {op : CmpOp} {r : V → V → Hp → VK → XK → Prop} {a b : Expr} {ta tb : TE} {pos : Pos} (ho : OpE X Wx (compareOp op) r) (ha : PE X a ta) (hb : PE X b tb)
    (hm : behindInMarks op b = false := by with_unfolding_all rfl) : PE X (.Compare a [op] [b] pos) (fun σ H Q => ta σ H fun x H1 => tb σ H1 fun y H2 => r x y H2 Q (WE Wx σ)) := by
  refine ⟨fun pins s σ H Q I h => ?_⟩
  exact wpAny_Compare1 (binT ha hb I h fun v u s2 x y H2 I2 rx ry q => ho pins s2 σ H2 x y v u Q I2 rx ry q) hm
theorem pt_cmpE {X : Cx} {Wx : WX} {op : CmpOp} {r : V → V → Hp → VK → XK → Prop} {a b : Expr} {ta tb : TE} {pos : Pos} (ho : OpE X Wx (compareOp op) r) (ha : PE X a ta) (hb : PE X b tb)
    (hm : behindInMarks op b = false := by with_unfolding_all rfl) : PT X (.Compare a [op] [b] pos) (tB (fun σ H Q => ta σ H fun x H1 => tb σ H1 fun y H2 => r x y H2 Q (WE Wx σ))) := by
  refine ⟨fun pins s σ H Q I h => ?_⟩
  refine wpAny_isTrue_Compare1 (thn (ha.run pins s σ H _ I h) fun v s1 ⟨x, H1, I1, r1, q1⟩ => thn (hb.run pins s1 σ H1 _ I1 q1) fun u s2 ⟨y, H2, I2, r2, q2⟩ =>
    thn (ho pins s2 σ H2 x y v u _ I2 r1 r2 q2) fun c s3 ⟨z, H3, I3, r3, k, e, q3⟩ => ?_) hm
  subst e
  cases r3
  exact wpAny_truthy_bool ⟨H3, I3, q3⟩

/-! ### x in y -/
theorem op_inU {B : Bs} {X : Cx} {hs : Hd} {k : Nat} {neg : Bool} {op : CmpOp} {Wx : WX} (hop : op = if neg then .NotIn else .In) (hK : B.K = X.K) (tk : Takes X Wx) (hr : Room k X.A) (hM : ∀ c g, hs.at c = some g → OwnM B X k "__contains__" 2 c g) :
    OpE X Wx (compareOp op) (inR B neg hs) := by
  intro pins s2 σ H2 x y v u Q I2 rx ry q
  have hu : X.A.units + 1 < cLine := by have := hr.units; omega
  rcases q with q | ⟨p, kvs, z, rfl, h1, rfl, q⟩ | ⟨c, g, p, dx, fs, hg, rfl, hp2, q⟩
  · have q' : rIn X.K neg x y H2 Q := by rw [← hK]; exact q
    cases neg with
    | false => subst hop; exact op_in_seq pins s2 σ H2 x y v u Q I2 rx ry q'
    | true => subst hop; exact op_notIn_seq pins s2 σ H2 x y v u Q I2 rx ry q'
  · cases (show u = Value.ref p from ry)
    have g : DGet H2 p (.str z) (valV kvs (.inr z)) := .inl ⟨kvs, Sum.inr z, h1, rfl, rfl⟩
    cases neg with
    | false => subst hop; exact d_in hu I2 g rx fun s3 I3 => ⟨.bl _, H2, I3, rfl, q⟩
    | true => subst hop; exact d_notIn hu I2 g rx fun s3 I3 => ⟨.bl _, H2, I3, rfl, q⟩
  · obtain ⟨f, fd, ps, h1, h2, h3, _, _, h4, _, h5⟩ := (hM c g hg).ex
    cases (show u = Value.ref p from ry)
    obtain ⟨ox, od, J⟩ := inst_of I2 hp2
    obtain ⟨m, fr⟩ := I2.fr
    have run := run_any (us := [.ref p, v]) h5 hr I2.env0 h4 (passAt tk σ) I2 (.cons (show L2.RelV (.ref p) (.ref p) from rfl) (.cons rx .nil)) q
    cases neg with
    | false =>
      subst hop
      refine PySem.W.in_K fr I2.ok.mod.kin J h1 h2 (wpAny_mono run (fun r s3 z => ?_) fun _ _ z => z)
      obtain ⟨w', H3, I3, rw', b, rfl, q3⟩ := z
      cases (show r = Value.bool b from rw')
      exact wpAny_truthy_bool ⟨.bl b, H3, I3, rfl, q3⟩
    | true =>
      subst hop
      refine PySem.W.notIn_K fr I2.ok.mod.kin J h1 h2 (wpAny_mono run (fun r s3 z => ?_) fun _ _ z => z)
      obtain ⟨w', H3, I3, rw', b, rfl, q3⟩ := z
      cases (show r = Value.bool b from rw')
      exact wpAny_truthy_bool ⟨.bl (!b), H3, I3, rfl, q3⟩

/-! ### x == y, x != y -/
section
variable {prog : Program} {w : World} {A : Around} {E : Value → Shared → Prop} {s : Shared} {K : PySem.W.Frag} {x C L f : Addr} {h₀ : Heap} {m : Str → Option Value} {ox : Obj} {od : Option Obj}
theorem ifBound_bi {M : Model} {name : Str} {id : String} {args : List Value} {Q : Option Value → Shared → Prop} (X : K.In s.heap) (I : PySem.W.InstAt s.heap x ox C od) (hs : PySem.W.findIn K (.ref C) name = some (some (.builtin id)))
    (hb : bindSpecial (.builtin id) (.ref x) = pure (.builtin id, [.ref x])) (h : wpAny M A (call (.builtin id) (.ref x :: args)) (fun v => Q (some v)) E s) : wpAny M A (callSpecialIfBound? (.ref x) name args) Q E s := by
  simp only [callSpecialIfBound?, bindSpecialIfBound?]
  refine wpAny_holding (wpAny_bind (wpAny_bind (wpAny_bind (I.type.here ((PySem.W.looks_findIn X hs).here ?_)))))
  simp only [hb]
  refine wpAny_bind (wpAny_askSetting (wpAny_ite ?_))
  have fin : wpAny M A (call (.builtin id) ([.ref x] ++ args) >>= fun v => pure (some v)) Q E s := wpAny_bind (wpAny_mono h (fun v s' h' => wpAny_pure h') fun _ _ h' => h')
  split
  · exact wpAny_bind (wpAny_pure (wpAny_pure fin))
  · exact wpAny_tryCatch (wpAny_bind (wpAny_pure (wpAny_pure fin)))
/-- object's own answer to !=: not what == answers -/
theorem ne_entry {b : Value} {Q : Fin → Shared → Prop} (hu : A.units < cLine) (X : K.In s.heap) (I : PySem.W.InstAt s.heap x ox C od) (he : PySem.W.findIn K (.ref C) "__eq__" = some (some (.ref f))) (hf : PySem.W.isFn K (.ref f) = true)
    (h : wpAny (model prog w) A (call (.ref f) [.ref x, b]) (fun v s' => ∃ t, v = .bool t ∧ Q (.done (.ret (.bool (!t)))) s') E s) : wpAny (model prog w) A (Builtin.«object.__ne__» ⟨[.ref x, b], []⟩) Q E s := by
  obtain ⟨hh, gg, dd, tt, os⟩ := s
  unfold Builtin.«object.__ne__»
  repeat (first
    | with_reducible refine wpAny_cRoomFor hu ?_
    | (refine wpAny_bind (m := callSpecialIfBound? (.ref x) (Str.ofString "__eq__") [b])
        (PySem.W.ifBound_K X I he hf (wpAny_mono h (fun r s' hr => by
          obtain ⟨t, rfl, hq⟩ := hr
          repeat (first | exact hq | exact wpAny_pure hq | exact wpAny_truthy_bool hq | (refine wpAny_bind (m := truthy (.bool _)) (wpAny_truthy_bool ?_)) | wp_step)) fun _ _ e => e)))
    | wp_step)
theorem one_ne {b : Value} {Q : Value → Shared → Prop} (hu : A.in1.units < cLine) (X : K.In s.heap) (I : PySem.W.InstAt s.heap x ox C od)
    (hs : PySem.W.findIn K (.ref C) "__ne__" = some (some (.builtin "object.__ne__"))) (he : PySem.W.findIn K (.ref C) "__eq__" = some (some (.ref f))) (hf : PySem.W.isFn K (.ref f) = true) (ho : PySem.W.mroIn K C (.type "object") = some true)
    (h : wpAny (model prog w) A.in1 (call (.ref f) [.ref x, b]) (fun v s' => ∃ t, v = .bool t ∧ Q (.bool (!t)) s') E s) : wpAny (model prog w) A (tryCompare (.ref x) "__ne__" b) (fun r s' => ∃ v, r = some v ∧ Q v s') E s := by
  simp only [tryCompare]
  refine wpAny_bind (ifBound_bi X I hs (F.cmp_object.ne.bind _) (wpAny_call (codeAny_call_builtin F.cmp_object.ne.plain F.cmpEntry_ne
    (PySem.W.check_slot F.cmpKind_ne F.cmpSplit_ne (I.type.andThen (PySem.W.looks_mroIn X ho)) (F.cmpArgs_ne _ _) (ne_entry (A := A.in1) hu X I he hf (wpAny_mono h (fun v s' hv => ?_) fun _ _ e => e))))))
  obtain ⟨t, rfl, hq⟩ := hv
  first | exact ⟨t, rfl, wpAny_pure ⟨_, rfl, hq⟩⟩ | exact ⟨t, rfl, wpAny_pure (wpAny_pure ⟨_, rfl, hq⟩)⟩ | exact ⟨t, rfl, ⟨_, rfl, hq⟩⟩
theorem cmp_ne {b tb : Value} {Q : Value → Shared → Prop} (hu : A.units + 1 < cLine) (F : Fr h₀ L s.heap m) (X₀ : K.In h₀) (I : PySem.W.InstAt s.heap x ox C od) (hb : PySem.W.Looks (model prog w) s.heap (typeOf b) tb) (hn : PySem.W.notFirst K C tb = true)
    (hs : PySem.W.findIn K (.ref C) "__ne__" = some (some (.builtin "object.__ne__"))) (he : PySem.W.findIn K (.ref C) "__eq__" = some (some (.ref f))) (hf : PySem.W.isFn K (.ref f) = true) (ho : PySem.W.mroIn K C (.type "object") = some true)
    (h : wpAny (model prog w) A.in1 (call (.ref f) [.ref x, b]) (fun v s' => ∃ t, v = .bool t ∧ Q (.bool (!t)) s') E s) : wpAny (model prog w) A (richCompare .NotEq (.ref x) b) Q E s := by
  have X := X₀.keeps F.keep
  have one := one_ne (Q := Q) hu X I hs he hf ho h
  unfold richCompare
  simp only [oneThing_ref]
  refine wpAny_holding (wpAny_bind (wpAny_cRoomFor (Nat.lt_of_succ_lt hu) ?_))
  rw [cmpInfo_NotEq]
  refine wpAny_bind (I.type.here (wpAny_bind (hb.here ?_)))
  split
  · rename_i q
    have e : PySem.W.subIn K tb (.ref C) = some false := by
      rcases Bool.or_eq_true_iff.mp hn with e | e
      · rw [beq_iff_eq.mp e] at q; simp at q
      · exact beq_iff_eq.mp e
    refine wpAny_bind ((PySem.W.looks_subIn X e).here ?_)
    simp only [Bool.false_eq_true, if_false]
    refine wpAny_bind (wpAny_mono one (fun r s' z => ?_) fun _ _ e => e)
    obtain ⟨v, rfl, hq⟩ := z
    exact wpAny_pure hq
  · refine wpAny_bind (wpAny_pure ?_)
    simp only [Bool.false_eq_true, if_false]
    refine wpAny_bind (wpAny_mono one (fun r s' z => ?_) fun _ _ e => e)
    obtain ⟨v, rfl, hq⟩ := z
    exact wpAny_pure hq
end

/-- both of one own class, by its own equality; else by the data -/
def eqR (B : Bs) (neg : Bool) (hs : Hd) (x y : V) (H : Hp) (Q : VK) (E : XK) : Prop :=
  (if neg then (o_neD B).r x y H Q else (o_eqD B).r x y H Q) ∨ ∃ c g p q dx fs dx' fs', hs.at c = some g ∧ x = .ref p ∧ y = .ref q ∧ H p = some (.ins (B.ca c) dx fs) ∧ H q = some (.ins (B.ca c) dx' fs') ∧
    spD B 2 g [x, y] H (fun v H' => ∃ b, v = .bl b ∧ Q (.bl (if neg then !b else b)) H') E
def eqE (neg : Bool) (hs : Hd) (d e : D) (s : HS) : Res := match d with
  | .ins c fs => match e with
    | .ins c' fs' => if c = c' then match hs.at c with
        | some g => (g [.ins c fs, .ins c' fs'] s).bindB fun b s1 => .ret (.bl (if neg then !b else b)) s1
        | none => .stuck
      else .stuck
    | _ => .stuck
  | d => Res.opt (eqF neg d e) s
def XE.eq {B : Bs} (neg : Bool) (hs : Hd) (a b : XE B) : XE B where
  te := fun Wx σ H Q => a.te Wx σ H fun x H1 => b.te Wx σ H1 fun y H2 => eqR B neg hs x y H2 Q (WE Wx σ)
  ev := fun Γ s => (a.ev Γ s).bind fun d s1 => (b.ev Γ s1).bind fun e s2 => eqE neg hs d e s2
  ok := fun {w F H σ Γ s} Wx e st sl => by
    refine (a.ok Wx e st sl).seq (u := fun x H1 Q => b.te Wx σ H1 fun y H2 => eqR B neg hs x y H2 Q (WE Wx σ)) fun d s1 v F1 H1 _ a1 st1 r1 => ?_
    refine (b.ok Wx a1.fh st1 (sl.step a1)).seq (u := fun y H2 Q => eqR B neg hs v y H2 Q (WE Wx σ)) fun d2 s2 v2 F2 H2 _ a2 st2 r2 => ?_
    have r1' := r1.mono a2.ff
    have plain : OkE B w F2 H2 σ Wx (fun Q => eqR B neg hs v v2 H2 Q (WE Wx σ)) (Res.opt (eqF neg d d2) s2) := by
      cases neg with
      | true => exact OkP.imp (((o_neD B).ok a2.fh r1' r2).toE st2) fun Q q => .inl q
      | false => exact OkP.imp (((o_eqD B).ok a2.fh r1' r2).toE st2) fun Q q => .inl q
    cases d with
    | ins c fs =>
      cases d2 with
      | ins c' fs' =>
        show OkE B w F2 H2 σ Wx _ (if c = c' then match hs.at c with
            | some g => (g [.ins c fs, .ins c' fs'] s2).bindB fun b s1 => .ret (.bl (if neg then !b else b)) s1
            | none => .stuck
          else .stuck)
        by_cases hc : c = c'
        · subst hc
          rw [if_pos rfl]
          cases hg : hs.at c with
          | none => trivial
          | some g =>
            obtain ⟨p, dx, xs, rfl, h1, h2⟩ := rep_ins.mp r1'
            obtain ⟨q, dy, ys, rfl, h3, h4⟩ := rep_ins.mp r2
            have h := spD_use (σ := σ) (Wx := Wx) (g := g) (n := 2) (ds := [.ins c fs, .ins c fs']) (vs := [.ref p, .ref q]) rfl a2.fh st2 (reps_cons.mpr ⟨_, _, rfl, r1', reps_cons.mpr ⟨_, _, rfl, r2, reps_nil.mpr rfl⟩⟩)
            show OkE B w F2 H2 σ Wx _ ((g [.ins c fs, .ins c fs'] s2).bindB fun b s1 => .ret (.bl (if neg then !b else b)) s1)
            cases hr : g [.ins c fs, .ins c fs'] s2 with
            | stuck => trivial
            | exc c1 f1 s3 => rw [hr] at h; exact fun hx Q => .inr ⟨c, g, p, q, dx, xs, dy, ys, hg, rfl, rfl, a2.fh _ _ h1, a2.fh _ _ h3, h hx _⟩
            | ret z s3 =>
              rw [hr] at h
              cases z with
              | bl b => exact fun Q k => .inr ⟨c, g, p, q, dx, xs, dy, ys, hg, rfl, rfl, a2.fh _ _ h1, a2.fh _ _ h3, h _ fun v' F' H' a' b' c' => ⟨b, rep_bl.mp c', k _ F' H' a' b' (rep_bl.mpr rfl)⟩⟩
              | _ => trivial
        · rw [if_neg hc]; trivial
      | _ => trivial
    | _ => exact plain
/-- what the top has made of a class's equality; != by object's own one -/
structure OwnEq (B : Bs) (X : Cx) (k : Nat) (neg : Bool) (c : Str) (g : Gf) : Prop extends OwnM B X k "__eq__" 2 c g where
  ne : neg = true → PySem.W.findIn X.K (.ref (B.ca c)) "__ne__" = some (some (.builtin "object.__ne__")) ∧ PySem.W.mroIn X.K (B.ca c) (.type "object") = some true
theorem op_eqU {B : Bs} {X : Cx} {hs : Hd} {k : Nat} {neg : Bool} {op : CmpOp} {Wx : WX} (hop : op = if neg then .NotEq else .Eq) (hK : B.K = X.K) (tk : Takes X Wx) (hr : Room (k + 1) X.A) (hM : ∀ c g, hs.at c = some g → OwnEq B X k neg c g) :
    OpE X Wx (compareOp op) (eqR B neg hs) := by
  intro pins s σ H x y v u Q I rx ry q
  have hu : X.A.units + 1 < cLine := by have := hr.units; omega
  rcases q with q | ⟨c, g, p, q1, dx, fs, dy, fs', hg, rfl, rfl, hp, hq, q⟩
  · cases neg with
    | false =>
      subst hop
      have q' : rEqD X.K x y H Q := by rw [← hK]; exact q
      exact op_eqD hr.units pins s σ H x y v u Q I rx ry q'
    | true =>
      subst hop
      have q' : rNeD X.K x y H Q := by rw [← hK]; exact q
      exact op_neD hr.units pins s σ H x y v u Q I rx ry q'
  · obtain ⟨f, fd, ps, h1, h2, h3, _, _, h4, _, h5⟩ := (hM c g hg).ex
    cases (show v = Value.ref p from rx)
    cases (show u = Value.ref q1 from ry)
    obtain ⟨ox, od, J⟩ := inst_of I hp
    obtain ⟨oy, od', J'⟩ := inst_of I hq
    obtain ⟨m, fr⟩ := I.fr
    have hn : PySem.W.notFirst X.K (B.ca c) (.ref (B.ca c)) = true := by unfold PySem.W.notFirst; simp
    have rv : Vals [V.ref p, V.ref q1] [Value.ref p, Value.ref q1] := .cons (show L2.RelV (.ref p) (.ref p) from rfl) (.cons (show L2.RelV (.ref q1) (.ref q1) from rfl) .nil)
    cases neg with
    | false =>
      subst hop
      show wpAny _ _ (compareOp .Eq _ _) _ _ _
      unfold compareOp
      have run := run_any (us := [.ref p, .ref q1]) h5 (hr.mono (Nat.le_succ k)) I.env0 h4 (passAt tk σ) I rv q
      refine PySem.W.cmp_K (Nat.lt_of_succ_lt hu) fr I.ok.mod.kin J J'.type hn h1 h2 (wpAny_mono run (fun r s3 z => ?_) fun _ _ z => z)
      obtain ⟨w', H3, I3, rw', b, rfl, q3⟩ := z
      cases (show r = Value.bool b from rw')
      exact ⟨.bl b, H3, I3, rfl, q3⟩
    | true =>
      subst hop
      show wpAny _ _ (compareOp .NotEq _ _) _ _ _
      unfold compareOp
      obtain ⟨n1, n2⟩ := (hM c g hg).ne rfl
      have run := run_any (us := [.ref p, .ref q1]) h5 hr.in1 I.env0.in1 h4 (passAt tk σ) I rv q
      refine cmp_ne hu fr I.ok.mod.kin J J'.type hn n1 h1 h2 n2 (wpAny_mono run (fun r s3 z => ?_) fun _ _ z => z)
      obtain ⟨w', H3, I3, rw', b, rfl, q3⟩ := z
      cases (show r = Value.bool b from rw')
      exact ⟨b, rfl, .bl (!b), H3, I3, rfl, q3⟩
end Dv

set_option Elab.async false
set_option linter.all false
set_option maxRecDepth 100000
/-! # enumerate over a tuple -/
namespace Dv
open PySem PySem.Spec PyProof.Rows L2 Evl

set_option maxHeartbeats 1000000 in
theorem meets_en1 {v0 : Value} {ob : Obj} {HH : Heap → Prop} (Bg : Begins v0 ob HH) :
    Meets (Builtin.«enumerate.__new__» ⟨[.type "enumerate", v0], []⟩) (fun _ R st => HH st.heap ∧
      R (.ok (.ret (.ref (st.heap.push ob).objs.size))) { st with heap := (st.heap.push ob).push { cls := .type "enumerate", data := .fields #[.none, .bool false, .ref st.heap.objs.size, rawInt 0, .none, .none] } }) :=
  .of_wp fun prog w A R st hst => by
    obtain ⟨hp0, gg, dd, tk0, os0⟩ := st
    obtain ⟨hh1, hst⟩ := hst
    have hsub := sub_enumerate
    have qi : ∀ {A1 : Around} {E1 : Value → Shared → Prop} {Q1 : Value → Shared → Prop}, Q1 (.ref hp0.objs.size) ⟨hp0.push ob, gg, dd, tk0, os0⟩ → wpAny (model prog w) A1 (pyIter v0) Q1 E1 ⟨hp0, gg, dd, tk0, os0⟩ :=
      fun qq => Bg.iter prog w _ _ ⟨hp0, gg, dd, tk0, os0⟩ _ hh1 qq
    wp_walk using qi
    refine wpAny_stack_any fun stk0 => wpAny_pure ?_
    split
    · rename_i c0 _ _ _ _ _
      cases (c0 == Value.type "enumerate")
      · wp_walk using qi
        exact ⟨_, rfl, hst⟩
      · wp_walk using qi
        exact ⟨_, rfl, hst⟩
    · wp_walk using qi
      exact ⟨_, rfl, hst⟩
section
variable {prog : Program} {w : World} {A : Around} {E : Value → Shared → Prop} {s : Shared}
theorem en1_begins {v0 : Value} {ob : Obj} {HH : Heap → Prop} {Q : Value → Shared → Prop} (Bg : Begins v0 ob HH) (h1 : HH s.heap)
    (hq : ∀ h', IsEnum h' (s.heap.objs.size + 1) s.heap.objs.size 0 .none → h'.get? s.heap.objs.size = some ob → (∀ b o, s.heap.get? b = some o → h'.get? b = some o) → Q (.ref (s.heap.objs.size + 1)) { s with heap := h' }) :
    wpAny (model prog w) A (call (.type "enumerate") [v0]) Q E s := by
  refine callType_new F.called_enumerate (by decide) (F.typeCall_enumerate_1 v0) (F.newCall_enumerate_1 v0) (fun obj => F.args_object_init_2 obj v0) F.entry_enumerate_new (meets_en1 Bg) ⟨h1, ?_⟩
  have hz : (s.heap.push ob).objs.size = s.heap.objs.size + 1 := Heap.size_push ..
  show _ ∧ _
  rw [hz]
  have he : IsEnum ((s.heap.push ob).push { cls := .type "enumerate", data := .fields #[.none, .bool false, .ref s.heap.objs.size, rawInt 0, .none, .none] }) (s.heap.objs.size + 1) s.heap.objs.size 0 .none := by
    have hx := Heap.get?_push_size (s.heap.push ob) (o := { cls := .type "enumerate", data := .fields #[.none, .bool false, .ref s.heap.objs.size, rawInt 0, .none, .none] }) rfl
    rw [hz] at hx
    exact hx
  exact ⟨⟨_, he, rfl⟩, hq _ he (Heap.get?_push_of_some _ (Heap.get?_push_size _ Bg.free)) fun b o x => Heap.get?_push_of_some _ (Heap.get?_push_of_some _ x)⟩
end
/-- the tuple at a, each item in a new pair with its place -/
def ItEn (K : PySem.W.Frag) (a : Addr) : It :=
  ⟨fun i H => ∃ (xs : List V) (x : V), SqT K H a xs ∧ xs[i]? = some x, fun i H v H' => ∃ T x, v = .ref T ∧ H T = none ∧ H' = upd H T (.tup [.int (i : Nat), x]) ∧ ∀ xs, SqT K H a xs → xs[i]? = some x, fun i H => ∃ xs : List V, SqT K H a xs ∧ xs.length = i⟩
theorem turn_en {P : Program} {w : World} {K : PySem.W.Frag} {elts : List Expr} {kk : Nat} {tpos : Pos} (a e it : Addr) (hne : e ≠ it) (hae : a ≠ e) (hai : a ≠ it) :
    Turn P w K (.Tuple elts kk tpos) (ItEn K a) [e, it] e (fun i h => (∃ old, IsEnum h e it ((i : Nat) : Int) old) ∧ h.IsTupleIter it a i) where
  mem := by simp
  obj := fun i h st b hb => by
    obtain ⟨⟨old, he⟩, ⟨o, ho, hc, hd⟩⟩ := st
    have hcs : b = e ∨ b = it := by simpa using hb
    rcases hcs with z | z
    · rw [z]; exact ⟨_, he, fun v q => nomatch q⟩
    · rw [z]; exact ⟨o, ho, fun v q => by rw [hd] at q; cases q⟩
  keep := fun i h h' st k => ⟨⟨st.1.choose, k e (by simp) _ st.1.choose_spec⟩, st.2.at fun o q => k it (by simp) o q⟩
  item := by
    intro X hP hw hK hc i pins s σ H E I hf st hg
    subst hP hw hK
    obtain ⟨⟨old, he⟩, hit⟩ := st
    obtain ⟨xs, x, hq, hx⟩ := hg
    obtain ⟨its, rv, p, hz⟩ := I.tuple hq
    obtain ⟨u, hu, ru⟩ := rv.get hx
    have hel : e < s.heap.objs.size := Heap.lt_size he
    have hil : it < s.heap.objs.size := by obtain ⟨_, q, _⟩ := hit; exact Heap.lt_size q
    have hcalm : X.A.in1.handled = none := I.ok.hd hc
    have hlt : i < its.toArray.size := by
      obtain ⟨hh, _⟩ := List.getElem?_eq_some_iff.mp hu
      simpa using hh
    refine wpAny_pyNext_enum_itemC (Draws.tuple hcalm it a hai its.toArray) he ⟨hit, p⟩ hlt hne (by simp [hne, hae.symm]) fun y h' tk hy ho hs' hT hsz hk => ?_
    have hyu : y = u := by
      have h3 : its.toArray[i]? = some u := by simpa using hu
      rw [h3] at hy
      exact (Option.some.inj hy).symm
    subst hyu
    refine ⟨_, rfl, wpAny_letOwnedTupleGo_enum (s := { s with heap := h', toks := tk + 1 }) ho fun h2 he2 sb => ?_⟩
    have hT2 : h2.get? s.heap.objs.size = some { cls := .type "tuple", data := .seq #[.int i tk, y] } := (sb.2 _ (Nat.ne_of_gt hel)).trans hT
    have new : ObjOk X.prog X.w (upd H s.heap.objs.size (.tup [.int (i : Nat), x])) h2 s.heap.objs.size (.tup [.int (i : Nat), x]) :=
      ⟨by show 2 ≤ sizeLine; decide, [.int i tk, y], .cons ⟨_, rfl⟩ (.cons ru .nil), ⟨_, hT2, rfl, _, rfl⟩⟩
    have I1 : Inv X pins σ (upd H s.heap.objs.size (.tup [.int (i : Nat), x])) { s with heap := h2, toks := tk + 1 } :=
      I.turnedNew (ch := [e, it]) (fun b ob hb q => (sb.2 b (fun z => hb (by simp [z]))).trans (hk b ob (fun z => hb (by simp [z])) (fun z => hb (by simp [z])) q)) hf (Nat.le_refl _) new
    refine ⟨.ref s.heap.objs.size, _, I1, rfl, ⟨_, x, rfl, I.hok.fresh (Nat.le_refl _), rfl, fun ys hy2 => by rw [I.tuple_inj hy2 hq]; exact hx⟩, ⟨⟨y, ?_⟩, hs'.1.at fun o q => (sb.2 it (Ne.symm hne)).trans q⟩, fun b hb => ?_⟩
    · have e1 : ((i + 1 : Nat) : Int) = (i : Int) + 1 := by omega
      rw [e1]; exact he2
    · have hb2 : b < s.heap.objs.size := by
        have hcs : b = e ∨ b = it := by simpa using hb
        rcases hcs with z | z
        · rw [z]; exact hel
        · rw [z]; exact hil
      rw [upd_ne (Nat.ne_of_lt hb2)]
      exact (hf b hb).1
  done := by
    intro X hP hw hK hc i pins s σ H E I hf st hg
    subst hP hw hK
    obtain ⟨⟨old, he⟩, hit⟩ := st
    obtain ⟨xs, hq, hx⟩ := hg
    obtain ⟨its, rv, p, hz⟩ := I.tuple hq
    obtain ⟨f0, f1, f2, f3, f4, f5⟩ := hf it (by simp)
    have hcalm : X.A.in1.handled = none := I.ok.hd hc
    have hl := rv.length
    have hn : its.toArray.size = i := by simp; omega
    have hst : (s.heap.IsTupleIter it a its.toArray.size ∧ s.heap.IsTuple a its.toArray) := ⟨by rw [hn]; exact hit, p⟩
    exact wpAny_pyNext_enum_endD (Draws.tuple hcalm it a hai its.toArray) he hst fun h' eb => ⟨rfl, I.turned (t' := s.toks) (fun b o hb q => eb b o hb q) f0 f1 f3 f4 f5⟩
  self := fun A i s Q E st h => let ⟨⟨_, he⟩, _⟩ := st; wpAny_pyIter_enum he h
def iEnT (K : PySem.W.Frag) (ta : TA) : TI := fun σ H R => ta σ H fun vs H1 => ∃ a xs, vs = [.ref a] ∧ SqT K H1 a xs ∧ R (ItEn K a) H1
theorem pi_en {X : Cx} {e : Expr} {ta : TA} {p pos tpos : Pos} {elts : List Expr} {kk : Nat} (hg : Gl X "enumerate") (hm : X.mg "enumerate" = none) (ha : PA X [e] ta) (hs : starEach [e] X.env = [(false, eval e X.env)] := by rfl) :
    PI X (.Tuple elts kk tpos) (.Call (.Name "enumerate" p) [e] [] pos) (iEnT X.K ta) := by
  refine ⟨fun pins s σ H R I h => ?_⟩
  refine Call_ (ld_blt I hg hm boot_enumerate (PyProof.Rows.callWith_type1 (thn (ha.run pos pins s σ H _ I h) fun us s1 ⟨vs, H1, I1, r1, q1⟩ => ?_) hs rfl))
  obtain ⟨a, xs, ex, hq, q⟩ := q1
  subst ex
  cases r1 with
  | cons r rr =>
    cases rr
    cases r
    obtain ⟨its, rv, p', hz⟩ := I1.tuple hq
    have hal : a < s1.heap.objs.size := by obtain ⟨o, ho, _⟩ := p'; exact Heap.lt_size ho
    refine en1_begins (begins_tuple a its.toArray) p' fun h' he hit hk => wpAny_pyIter_enum he ?_
    have I2 : Inv X pins σ H1 { s1 with heap := h' } := I1.kept (t' := s1.toks) hk
    refine ⟨s1.heap.objs.size + 1, [s1.heap.objs.size + 1, s1.heap.objs.size], _, _, H1, rfl, I2, turn_en a (s1.heap.objs.size + 1) s1.heap.objs.size (Nat.succ_ne_self _) (Nat.ne_of_lt (Nat.lt_succ_of_lt hal)) (Nat.ne_of_lt hal), ⟨⟨.none, he⟩, ⟨_, hit, rfl, rfl⟩⟩, fun b hb => ?_, q⟩
    have hcs : b = s1.heap.objs.size + 1 ∨ b = s1.heap.objs.size := by simpa using hb
    have hle : s1.heap.objs.size ≤ b := by
      rcases hcs with z | z
      · rw [z]; exact Nat.le_add_right _ _
      · rw [z]; exact Nat.le_refl _
    exact I1.fpOk hle (I1.hok.fresh hle)
end Dv

set_option Elab.async false
set_option linter.all false
set_option maxRecDepth 100000
/-! # enumerate, zip, slices -/
namespace Dv
open PySem PySem.Spec PyProof.Rows L2 Evl

theorem rep_pair {B : Bs} {w : Wd} {F : Hp} {T : Addr} {x y : V} {d e : D} (hT : F T = none) (r1 : Rep B w F d x) (r2 : Rep B w F e y) : Rep B w (upd F T (.tup [x, y])) (.tup false [d, e]) (.ref T) :=
  rep_tup.mpr ⟨T, [x, y], rfl, st_of upd_same, reps_cons.mpr ⟨x, _, rfl, r1.mono (Ex.new hT), reps_cons.mpr ⟨y, _, rfl, r2.mono (Ex.new hT), reps_nil.mpr rfl⟩⟩⟩
def enuD (ds : List D) : List D := ds.mapIdx fun i d => D.tup false [.int (i : Nat), d]
theorem yl_en {B : Bs} {w : Wd} {F1 : Hp} {a : Addr} {xs : List V} {ds : List D} (hx : SqT B.K F1 a xs) (r : Reps B w F1 ds xs) : Yl B w F1 (ItEn B.K a) (enuD ds) := fun F H e1 e2 => by
  have hq := ex_t (e1.trans e2) hx
  refine ⟨fun i d hd => ?_, xs, hq, by rw [r.length]; simp [enuD]⟩
  unfold enuD at hd
  rw [List.getElem?_mapIdx] at hd
  cases hd0 : ds[i]? with
  | none => rw [hd0] at hd; cases hd
  | some d0 =>
    rw [hd0] at hd
    cases hd
    obtain ⟨v, h1, h2⟩ := r.get hd0
    refine ⟨⟨xs, v, hq, h1⟩, fun x H' y => ?_⟩
    obtain ⟨T, u, rfl, hT, rfl, hu⟩ := y
    have hv := hu xs hq
    rw [h1] at hv
    cases hv
    exact ⟨_, Step.new e2 hT, fun s st => st.new hT, rep_pair (fresh_back e2 hT) (rep_int.mpr rfl) (h2.mono e1)⟩
/-- enumerate(t) -/
def XI.enu {B : Bs} (p : XE B) : XI B where
  ti := fun Wx => iEnT B.K (tas Wx [p])
  ev := fun Γ s => (p.ev Γ s).bind fun d s1 => match (match d with
      | .tup _ ds => some (enuD ds)
      | _ => none) with
    | some ds => .ret (.lst ds) s1
    | none => .stuck
  ok := fun {w F H σ Γ s} Wx e st sl => by
    refine OkI.seq (u := fun x H1 R => ∃ a xs, [x] = [V.ref a] ∧ SqT B.K H1 a xs ∧ R (ItEn B.K a) H1) (p.ok Wx e st sl) fun d ds v F1 H1 h e1 r => ?_
    cases d with
    | tup pl es =>
      cases h
      obtain ⟨q, xs, rfl, h1, h2⟩ := rep_tupE r
      exact ⟨_, yl_en h1 h2, fun R k => ⟨q, xs, rfl, ex_t e1 h1, k⟩⟩
    | _ => cases h

def zipD (ds es : List D) : List D := List.zipWith (fun d e => D.tup false [d, e]) ds es
theorem zipD_get {ds es : List D} {i : Nat} {d : D} (h : (zipD ds es)[i]? = some d) : ∃ d1 d2, ds[i]? = some d1 ∧ es[i]? = some d2 ∧ d = .tup false [d1, d2] := by
  unfold zipD at h
  rw [List.getElem?_zipWith] at h
  cases h1 : ds[i]? with
  | none => rw [h1] at h; cases h
  | some d1 =>
    cases h2 : es[i]? with
    | none => rw [h1, h2] at h; cases h
    | some d2 => rw [h1, h2] at h; cases h; exact ⟨d1, d2, rfl, rfl, rfl⟩
theorem yl_zipT {B : Bs} {w : Wd} {F1 : Hp} {a b : Addr} {xs ys : List V} {ds es : List D} (hx : SqT B.K F1 a xs) (hy : SqT B.K F1 b ys) (r : Reps B w F1 ds xs) (r' : Reps B w F1 es ys) : Yl B w F1 (RZ.ItzT B.K a b) (zipD ds es) := fun F H e1 e2 => by
  have hq := ex_t (e1.trans e2) hx
  have hq' := ex_t (e1.trans e2) hy
  refine ⟨fun i d hd => ?_, xs, ys, hq, hq', ?_⟩
  · obtain ⟨d1, d2, k1, k2, rfl⟩ := zipD_get hd
    obtain ⟨v, h1, h2⟩ := r.get k1
    obtain ⟨v', h1', h2'⟩ := r'.get k2
    refine ⟨⟨xs, ys, v, v', hq, hq', h1, h1'⟩, fun x H' y => ?_⟩
    obtain ⟨T, u, u', rfl, hT, rfl, hu, hu'⟩ := y
    have hv := hu xs hq
    have hv' := hu' ys hq'
    rw [h1] at hv
    rw [h1'] at hv'
    cases hv
    cases hv'
    exact ⟨_, Step.new e2 hT, fun s st => st.new hT, rep_pair (fresh_back e2 hT) (h2.mono e1) (h2'.mono e1)⟩
  · rw [r.length, r'.length]
    simp [zipD]
    omega
theorem yl_zipL {B : Bs} {w : Wd} {F1 : Hp} {a b : Addr} {xs ys : List V} {ds es : List D} (hx : SqL B.K F1 a xs) (hy : SqL B.K F1 b ys) (r : Reps B w F1 ds xs) (r' : Reps B w F1 es ys) : Yl B w F1 (Itz B.K a b) (zipD ds es) := fun F H e1 e2 => by
  have hq := ex_l (e1.trans e2) hx
  have hq' := ex_l (e1.trans e2) hy
  refine ⟨fun i d hd => ?_, xs, ys, hq, hq', ?_⟩
  · obtain ⟨d1, d2, k1, k2, rfl⟩ := zipD_get hd
    obtain ⟨v, h1, h2⟩ := r.get k1
    obtain ⟨v', h1', h2'⟩ := r'.get k2
    refine ⟨⟨xs, ys, v, v', hq, hq', h1, h1'⟩, fun x H' y => ?_⟩
    obtain ⟨T, u, u', rfl, hT, rfl, hu, hu'⟩ := y
    have hv := hu xs hq
    have hv' := hu' ys hq'
    rw [h1] at hv
    rw [h1'] at hv'
    cases hv
    cases hv'
    exact ⟨_, Step.new e2 hT, fun s st => st.new hT, rep_pair (fresh_back e2 hT) (h2.mono e1) (h2'.mono e1)⟩
  · rw [r.length, r'.length]
    simp [zipD]
    omega
def zipE (d e : D) (s : HS) : Res := match d, e with
  | .tup _ ds, .tup _ es => .ret (.lst (zipD ds es)) s
  | .lst ds, .lst es => .ret (.lst (zipD ds es)) s
  | _, _ => .stuck
/-- zip(x, y): two lists or two tuples -/
def XI.zip {B : Bs} (p q : XE B) : XI B where
  ti := fun Wx => RZ.iZipA B.K (tas Wx [p, q])
  ev := fun Γ s => (p.ev Γ s).bind fun d s1 => (q.ev Γ s1).bind fun e s2 => zipE d e s2
  ok := fun {w F H σ Γ s} Wx e st sl => by
    have h := p.ok Wx e st sl
    cases hr : p.ev Γ s with
    | stuck => trivial
    | exc c fs s' => rw [hr] at h; exact fun hx R => h hx _
    | ret d s1 =>
      rw [hr] at h
      show OkI B w F H σ Wx _ ((q.ev Γ s1).bind fun e s2 => zipE d e s2)
      have hq := fun {F1 H1 : Hp} (a1 : Step w F H F1 H1) (st1 : StAt w s1 F1 H1) => q.ok (σ := σ) (Γ := Γ) Wx a1.fh st1 (sl.step a1)
      cases hr2 : q.ev Γ s1 with
      | stuck => trivial
      | exc c fs s' =>
        exact fun hx R => h _ fun v F1 H1 a1 st1 _ => by
          have z := hq a1 st1
          rw [hr2] at z
          exact z (fun od F' H' a b c => hx od F' H' (a1.trans a) b c) _
      | ret e2 s2 =>
        show OkI B w F H σ Wx _ (zipE d e2 s2)
        cases d with
        | tup pl ds =>
          cases e2 with
          | tup pl es =>
            refine fun R k => h _ fun v F1 H1 a1 st1 rd => ?_
            have z := hq a1 st1
            rw [hr2] at z
            refine z _ fun v2 F2 H2 a2 st2 re => ?_
            obtain ⟨a, xs, rfl, h1, h2⟩ := rep_tupE (rd.mono a2.ff)
            obtain ⟨b, ys, rfl, h3, h4⟩ := rep_tupE re
            exact ⟨a, b, xs, ys, rfl, .inr ⟨ex_t a2.fh h1, ex_t a2.fh h3, k _ F2 H2 (a1.trans a2) st2 (yl_zipT h1 h3 h2 h4)⟩⟩
          | _ => trivial
        | lst ds =>
          cases e2 with
          | lst es =>
            refine fun R k => h _ fun v F1 H1 a1 st1 rd => ?_
            have z := hq a1 st1
            rw [hr2] at z
            refine z _ fun v2 F2 H2 a2 st2 re => ?_
            obtain ⟨a, xs, rfl, h1, h2⟩ := rep_lst.mp (rd.mono a2.ff)
            obtain ⟨b, ys, rfl, h3, h4⟩ := rep_lst.mp re
            exact ⟨a, b, xs, ys, rfl, .inl ⟨sq_of (a2.fh _ _ h1), sq_of (a2.fh _ _ h3), k _ F2 H2 (a1.trans a2) st2 (yl_zipL (sq_of h1) (sq_of h3) h2 h4)⟩⟩
          | _ => trivial
        | _ => trivial

/-! ### slices -/
def XO (B : Bs) := Option (XE B)
def tpo {B : Bs} (Wx : WX) : Option (XE B) → TO
  | none => tNoPart
  | some p => tPart (p.te Wx)
def evo {B : Bs} (Γ : Gm) (s : HS) (k : Option Int → HS → Res) : Option (XE B) → Res
  | none => k none s
  | some p => (p.ev Γ s).bind fun d s1 => match d with
    | .int i => k (some i) s1
    | _ => .stuck
theorem evo_ok {B : Bs} {w : Wd} {σ : L2.St} {Γ : Gm} (Wx : WX) {F H : Hp} {s : HS} {k : Option Int → HS → Res} {u : Option Int → Hp → VK → Prop} (e : Ex F H) (st : StAt w s F H) (sl : SlsAt B w F H Γ σ)
    (hk : ∀ o s1 F1 H1, Step w F H F1 H1 → StAt w s1 F1 H1 → OkE B w F1 H1 σ Wx (u o H1) (k o s1)) : ∀ o : Option (XE B), OkE B w F H σ Wx (fun Q => tpo Wx o σ H (fun x H1 => u x H1 Q)) (evo Γ s k o)
  | none => hk none s F H (Step.refl e) st
  | some p => by
    refine (p.ok Wx e st sl).seq (u := fun x H1 Q => ∃ i, x = .int i ∧ u (some i) H1 Q) fun d s1 v F1 H1 _ a1 st1 r1 => ?_
    cases d with
    | int i => exact OkE.imp (hk (some i) s1 F1 H1 a1 st1) fun Q q => ⟨i, rep_int.mp r1, q⟩
    | _ => trivial
def cutD (ds : List D) (lo hi : Option Int) : List D := (ds.drop (HT.sIx ds.length 0 lo)).take (HT.sIx ds.length ds.length hi - HT.sIx ds.length 0 lo)
theorem Reps.drop {B : Bs} {w : Wd} {F : Hp} : ∀ {n : Nat} {ds : List D} {vs : List V}, Reps B w F ds vs → Reps B w F (ds.drop n) (vs.drop n)
  | 0, _, _, h => h
  | n + 1, [], _, h => by rw [reps_nil.mp h]; exact reps_nil.mpr rfl
  | n + 1, d :: ds, _, h => by
    obtain ⟨v, vs, rfl, _, h2⟩ := reps_cons.mp h
    exact h2.drop (n := n)
theorem Reps.take {B : Bs} {w : Wd} {F : Hp} : ∀ {n : Nat} {ds : List D} {vs : List V}, Reps B w F ds vs → Reps B w F (ds.take n) (vs.take n)
  | 0, _, _, h => by rw [List.take_zero, List.take_zero]; exact reps_nil.mpr rfl
  | n + 1, [], _, h => by rw [reps_nil.mp h]; exact reps_nil.mpr rfl
  | n + 1, d :: ds, _, h => by
    obtain ⟨v, vs, rfl, h1, h2⟩ := reps_cons.mp h
    exact reps_cons.mpr ⟨v, _, rfl, h1, h2.take (n := n)⟩
theorem Reps.cut {B : Bs} {w : Wd} {F : Hp} {ds : List D} {vs : List V} {lo hi : Option Int} (h : Reps B w F ds vs) : Reps B w F (cutD ds lo hi) (cutV vs lo hi) := by
  unfold cutD cutV
  rw [h.length]
  exact (h.drop).take
theorem cutD_whole {ds : List D} {lo hi : Option Int} (h : HT.sIx ds.length 0 lo = 0 ∧ HT.sIx ds.length ds.length hi = ds.length) : cutD ds lo hi = ds := by
  unfold cutD
  rw [h.1, h.2, List.drop_zero, Nat.sub_zero, List.take_length]
def slF (d : D) (lo hi : Option Int) : Option D := match d with
  | .tup _ ds => some (.tup false (cutD ds lo hi))
  | .lst ds => some (.lst (cutD ds lo hi))
  | .str x => if x.length ≤ 100000 then some (.str (cutS x lo hi)) else none
  | _ => none
def rSl (B : Bs) : V → Option Int → Option Int → Hp → VK → Prop := fun x lo hi H Q => rSlA B.K x lo hi H Q ∨ rSlL B.K x lo hi H Q ∨ rSlS x lo hi H Q
theorem slF_ok {B : Bs} {w : Wd} {F H : Hp} {x : V} {d : D} {lo hi : Option Int} (e : Ex F H) (r : Rep B w F d x) : OkV B w F H (rSl B x lo hi H) (slF d lo hi) := by
  cases d with
  | tup pl ds =>
    obtain ⟨p, xs, rfl, h1, h2⟩ := rep_tupE r
    intro z hz Q k
    cases hz
    refine .inl ⟨p, xs, rfl, ex_t e h1, fun hw => ?_, fun _ q hq => ?_⟩
    · rw [h2.length] at hw
      rw [cutD_whole hw] at k
      exact k _ F H (Step.refl e) (fun _ s => s) (rep_tup.mpr ⟨p, xs, rfl, h1, h2⟩)
    · exact k _ _ _ (Step.new e hq) (fun s st => st.new hq) (rep_tup.mpr ⟨q, _, rfl, st_of upd_same, h2.cut.mono (Ex.new (fresh_back e hq))⟩)
  | lst ds =>
    obtain ⟨p, xs, rfl, h1, h2⟩ := rep_lst.mp r
    exact (OkV.new (o := .lst (cutV xs lo hi)) e fun q hq => rep_lst.mpr ⟨q, _, rfl, upd_same, h2.cut.mono (Ex.new hq)⟩).imp fun Q q' => .inr (.inl ⟨p, xs, rfl, sq_of (e _ _ h1), q'⟩)
  | str y =>
    cases rep_str.mp r
    show OkV B w F H _ (if y.length ≤ 100000 then some (.str (cutS y lo hi)) else none)
    by_cases hc : y.length ≤ 100000
    · rw [if_pos hc]
      exact (OkV.pure e (rep_str.mpr rfl)).imp fun Q q => .inr (.inr ⟨y, rfl, sz_of hc, q⟩)
    · rw [if_neg hc]; exact fun z hz => nomatch hz
  | _ => exact fun z hz => nomatch hz
/-- x[lo:hi] -/
def XE.sli {B : Bs} (p : XE B) (lo hi : Option (XE B)) : XE B where
  te := fun Wx => tSl (rSl B) (p.te Wx) (tpo Wx lo) (tpo Wx hi)
  ev := fun Γ s => (p.ev Γ s).bind fun d s1 => evo Γ s1 (fun l s2 => evo Γ s2 (fun h s3 => Res.opt (slF d l h) s3) hi) lo
  ok := fun {w F H σ Γ s} Wx e st sl => by
    refine (p.ok Wx e st sl).seq (u := fun x H1 Q => tpo Wx lo σ H1 fun l H2 => tpo Wx hi σ H2 fun u H3 => rSl B x l u H3 Q) fun d s1 v F1 H1 _ a1 st1 r1 => ?_
    refine evo_ok Wx (u := fun l H2 Q => tpo Wx hi σ H2 fun u H3 => rSl B v l u H3 Q) a1.fh st1 (sl.step a1) (fun l s2 F2 H2 a2 st2 => ?_) lo
    refine evo_ok Wx (u := fun u H3 Q => rSl B v l u H3 Q) a2.fh st2 ((sl.step a1).step a2) (fun h s3 F3 H3 a3 st3 => ?_) hi
    exact (slF_ok a3.fh ((r1.mono a2.ff).mono a3.ff)).toE st3
theorem sl_D {B : Bs} {X : Cx} (hK : B.K = X.K) : SlR X (rSl B) := by
  unfold rSl
  rw [hK]
  exact SlR.or sl_tupA (SlR.or sl_list sl_str)
end Dv

set_option Elab.async false
set_option linter.all false
set_option maxRecDepth 100000
/-! # dict of a tuple of pairs, tuple of a dict -/
namespace Dv
open PySem PySem.Spec PyProof.Rows L2 Evl

/-! ### tuple(d) -/
section
variable {prog : Program} {w : World} {A : Around} {E : Value → Shared → Prop} {s : Shared} {T : String} {r0 d0 : Addr} {n : Nat} {P : Nat → Value → Prop} {OK : Heap → Prop}
theorem collect_src {Q : List Value → Shared → Prop} (KS : PySem.W.KdlSrc prog w T r0 d0 n P OK) (nohd : A.handled = none) (hok : OK s.heap) (hn : n ≤ sizeLine)
    (hQ : ∀ (h1 : Heap) (tk1 : Nat) (acc1 : Array Value), (∀ b o, s.heap.get? b = some o → h1.get? b = some o) → ItemsOf P acc1 n → Q acc1.toList { s with heap := h1, toks := tk1 }) :
    wpAny (model prog w) A (collect (.ref r0)) Q E s := by
  unfold collect
  refine wpAny_bind (wpAny_runValue (codeAny_builtin PySem.F.entry_proto_collect ?_))
  rw [Around.under_plainId PySem.F.plain_proto_collect ⟨[.ref r0], []⟩]
  show wpAny _ A.in1 (newList [] >>= fun ls => again (.builtin "list.__iadd__" ⟨[ls, .ref r0], []⟩)) _ _ s
  refine wpAny_bind (wpAny_newObj_type ?_)
  refine wpAny_pure ⟨plainId_quiet PySem.F.plain_list_iadd ⟨_, _⟩, codeAny_builtin PySem.F.entry_list_iadd ?_⟩
  rw [Around.under_plainId PySem.F.plain_list_iadd ⟨_, _⟩]
  show wpAny _ A.in1 (Builtin.List.listExtendWith (.ref s.heap.objs.size) (.ref r0) (.ref s.heap.objs.size)) _ _ _
  have hlt := KS.there _ hok
  have hnew : (s.heap.push { cls := .type "list", data := .seq ([] : List Value).toArray }).get? s.heap.objs.size = some { cls := .type "list", data := .seq #[] 0 } := Heap.get?_push_size s.heap rfl
  refine wpAny_mono (PySem.W.kdl_extend (A := A) (R := fun rr s1 => rr = .ok (.ret (.ref s.heap.objs.size)) ∧ ∃ (h1 : Heap) (tk1 : Nat) (acc1 : Array Value) (c1 : Nat), s1 = { s with heap := h1, toks := tk1 } ∧
      (∀ b o, s.heap.get? b = some o → h1.get? b = some o) ∧ h1.get? s.heap.objs.size = some { cls := .type "list", dict := none, data := .seq acc1 c1, slots := #[] } ∧ ItemsOf P acc1 n)
    (s := { s with heap := s.heap.push { cls := .type "list", data := .seq ([] : List Value).toArray } }) KS nohd (KS.keep _ _ hok fun b _ o e => Heap.get?_push_of_some _ e) _ (Nat.ne_of_gt hlt.1) (Nat.ne_of_gt hlt.2) _ 0 hnew
    (fun h1 tk1 acc1 c1 hk e hi => ⟨rfl, h1, tk1, acc1, c1, rfl, fun b o q => hk b o (Nat.ne_of_lt (Heap.lt_size q)) (Heap.get?_push_of_some _ q), e, hi⟩) hn) (fun fin s1 hf => ?_) (fun e s1 hf => ?_)
  · cases fin with
    | done f1 =>
      obtain ⟨e, h1, tk1, acc1, c1, rfl, hk, hS1, hi⟩ := hf
      cases e
      show wpAny _ A (load s.heap.objs.size >>= _) _ _ _
      exact wpAny_bind (wpAny_load hS1 (wpAny_pure (hQ h1 tk1 acc1 hk hi)))
    | again c1 =>
      refine ⟨hf.1, codeAny_mono hf.2 fun rr s2 hr2 => ?_⟩
      obtain ⟨rfl, h1, tk1, acc1, c2, rfl, hk, hS1, hi⟩ := hr2
      show wpAny _ A (load s.heap.objs.size >>= _) _ _ _
      exact wpAny_bind (wpAny_load hS1 (wpAny_pure (hQ h1 tk1 acc1 hk hi)))
  · exact absurd hf.1 (by simp)
theorem new_src {Q1 : Value → Shared → Prop} (KS : PySem.W.KdlSrc prog w "dict" r0 d0 n P OK) (nohd : A.handled = none) (hok : OK s.heap) (hn : n ≤ sizeLine)
    (hq : ∀ (h1 : Heap) (tk1 : Nat) (acc1 : Array Value), (∀ b o, s.heap.get? b = some o → h1.get? b = some o) → ItemsOf P acc1 n → Q1 (.ref h1.objs.size) { s with heap := h1.push { cls := .type "tuple", data := .seq acc1 }, toks := tk1 }) :
    codeAny (model prog w) A (.call (.builtin "tuple.__new__") ⟨[.type "tuple", .ref r0], []⟩) (wants Q1 E) s := by
  refine codeAny_of_tree ?_
  show wpAny _ A.in1 (do checkBuiltinCall "tuple.__new__" ⟨[.type "tuple", .ref r0], []⟩; again (.builtin "tuple.__new__" ⟨[.type "tuple", .ref r0], []⟩)) _ _ s
  refine wpAny_bind (wpAny_of_eq (PySem.F.newCall_tuple_1 (.ref r0)) (wpAny_pure ⟨plainId_quiet PySem.F.plain_tuple_new ⟨_, _⟩, codeAny_builtin PySem.F.entry_tuple_new ?_⟩))
  rw [Around.under_plainId PySem.F.plain_tuple_new ⟨_, _⟩]
  have a1 := PySem.sub_tuple_self
  have a2 := PySem.init_tuple_lookup
  have a3 := PySem.madeHere_tuple
  have a4 := KS.type s hok
  have a5 : A.in1.handled = none := nohd
  wp_walk using wpAny_typeOf a4, collect_src (A := A.in1) KS a5 hok hn
  intro h1 tk1 acc1 hk hacc
  show wpAny _ _ (Builtin.Tuple.tupleExact acc1.toList.toArray >>= fun v => ret v) _ _ _
  unfold Builtin.Tuple.tupleExact
  refine wpAny_bind (wpAny_newObj_type ?_ (by show acc1.toList.toArray.size ≤ sizeLine; simp only [Array.toArray_toList]; rw [hacc.1]; exact hn))
  refine wpAny_pure ?_
  have e : acc1.toList.toArray = acc1 := by simp
  rw [e]
  exact hq h1 tk1 acc1 hk hacc
theorem tuple_src {Q : Value → Shared → Prop} (KS : PySem.W.KdlSrc prog w "dict" r0 d0 n P OK) (nohd : A.handled = none) (hok : OK s.heap) (hn : n ≤ sizeLine)
    (hq : ∀ (h1 : Heap) (tk1 : Nat) (acc1 : Array Value), (∀ b o, s.heap.get? b = some o → h1.get? b = some o) → ItemsOf P acc1 n → Q (.ref h1.objs.size) { s with heap := h1.push { cls := .type "tuple", data := .seq acc1 }, toks := tk1 }) :
    wpAny (model prog w) A (call (.type "tuple") [.ref r0]) Q E s := by
  refine callType_codes (Q₁ := fun ob sn => sn.TypeIs ob "tuple" ∧ Q ob sn) PySem.F.called_tuple (PySem.F.typeCall_tuple_1 (.ref r0)) PySem.F.entry_object_init
    (new_src (A := A.in1) KS nohd hok hn fun h1 tk1 acc1 hk hacc => ⟨⟨_, Heap.get?_push_size _ rfl, rfl⟩, hq h1 tk1 acc1 hk hacc⟩) fun ob sn hs => ?_
  exact ⟨hs.1, PySem.F.args_object_init_2 ob _, object_init_meets PySem.F.called_tuple.init.lookup PySem.F.called_tuple.made (by decide) prog w A.in1 _ sn ⟨hs.1, rfl, hs.2⟩⟩
end
def rTupD : List V → Hp → VK → Prop := fun xs H Q => ∃ (a : Addr) (kvs : List (Key × V)), xs = [.ref a] ∧ Rd H a (.dK kvs) ∧ ∀ (p : Addr) (ob : Obj), H p = none → ob.dict = none → Q (.ref p) (upd H p (.frz ob (.tup (kvs.map fun kv => kV kv.1))))
theorem call_tupD {X : Cx} (calm : X.calm = true) : CallR X (.type "tuple") rTupD := by
  intro pins s σ H xs us Q I r q
  obtain ⟨a, kvs, ex, hd, q⟩ := q
  subst ex
  obtain ⟨u, eu, rx⟩ := vals1 r
  subst eu
  cases rx
  obtain ⟨z, lo, vs, rel, dd⟩ := dk_rd I.hok hd
  obtain ⟨ep, hat⟩ := dd.dictAt
  have ek : (kvs.map fun kv => kV kv.1) = vs.map fun p => kV p.1 := by
    have e0 := congrArg (List.map kV) rel.keys
    rw [List.map_map, List.map_map] at e0
    exact e0
  refine tuple_src (PySem.W.kdl_dict (knd := mixKind X.prog X.w) (kvs := vs) (ep := ep) lo) (I.ok.hd calm) hat (by rw [← rel.length]; exact z) fun h1 tk1 acc1 hk hacc => ?_
  have hv : Vals (vs.map fun p => kV p.1) acc1.toList := keys_at (by rw [Array.length_toList]; exact hacc.1) fun j v e => hacc.2 j v (by rw [← Array.getElem?_toList]; exact e)
  have I1 : Inv X pins σ H { s with heap := h1, toks := tk1 } := I.kept hk
  refine ⟨.ref h1.objs.size, _, I1.laid (t' := tk1) (o := .frz { cls := .type "tuple", data := .seq acc1 } (.tup (kvs.map fun kv => kV kv.1))) (fun b o e => Heap.get?_push_of_some _ e) (Nat.le_refl _) ?_, rfl, q _ _ (I1.hok.fresh (Nat.le_refl _)) rfl⟩
  exact ⟨Heap.get?_push_size _ rfl, by rw [List.length_map]; exact z, acc1.toList, by rw [ek]; exact hv, by rw [Array.toArray_toList]; exact IsTup.new _ _⟩

theorem repK_keys {B : Bs} {w : Wd} {F : Hp} : ∀ {kvs : List (Key × D)} {xs : List (Key × V)}, RepK B w F kvs xs → xs.map (fun kv => kV kv.1) = kvs.map (fun kv => kV kv.1)
  | [], _, r => by rw [repK_nil.mp r]; rfl
  | (k, d) :: kvs, _, r => by
    obtain ⟨v, xs, rfl, _, h2⟩ := repK_cons.mp r
    rw [List.map_cons, List.map_cons, repK_keys h2]
def dKy : Key → D
  | .inl i => .int i
  | .inr x => .str x
theorem rep_dKy {B : Bs} {w : Wd} {F : Hp} : ∀ k : Key, Rep B w F (dKy k) (kV k)
  | .inl _ => rep_int.mpr rfl
  | .inr _ => rep_str.mpr rfl
theorem reps_keys {B : Bs} {w : Wd} {F : Hp} : ∀ {kvs : List (Key × D)}, Reps B w F (kvs.map fun kv => dKy kv.1) (kvs.map fun kv => kV kv.1)
  | [] => reps_nil.mpr rfl
  | (k, d) :: kvs => reps_cons.mpr ⟨_, _, rfl, rep_dKy k, reps_keys⟩
def tupDF : D → Option D
  | .dic _ kvs => some (.tup true (kvs.map fun kv => dKy kv.1))
  | _ => none
def o_tupD (B : Bs) : OC B := .one tupDF rTupD fun {w F H v d} ex r => by
  cases d with
  | dic pl kvs =>
    obtain ⟨p, xs, rfl, h3, h4⟩ := rep_dicE r
    refine (OkV.newP (us := kvs.map fun kv => kV kv.1) ex reps_keys).imp fun Q q => ⟨p, xs, rfl, ex_rd ex h3, ?_⟩
    rw [repK_keys h4]
    exact q
  | _ => exact fun z hz => nomatch hz
def o_tupA (B : Bs) : OC B := (o_tup B).or (o_tupD B)
theorem call_tupA {B : Bs} {X : Cx} (hK : B.K = X.K) (calm : X.calm = true) : CallR X (.type "tuple") (o_tupA B).r := by
  have h1 : CallR X (.type "tuple") (o_tup B).r := by
    show CallR X (.type "tuple") (rTupP B.K)
    rw [hK]
    exact call_tupP
  exact L2.CallR.or h1 (call_tupD calm)

/-! ### dict(pairs) -/
def putKD (kvs : List (Key × D)) (k : Key) (d : D) : List (Key × D) :=
  if (kvs.any fun kv => decide (kv.1 = k)) = true then kvs.map (fun kv => if kv.1 = k then (kv.1, d) else kv) else kvs ++ [(k, d)]
def mergeD (kvs more : List (Key × D)) : List (Key × D) := more.foldl (fun acc kv => putKD acc kv.1 kv.2) kvs
section
variable {B : Bs} {w : Wd} {F : Hp}
theorem repK_some {k : Key} : ∀ {kvs : List (Key × D)} {xs : List (Key × V)}, RepK B w F kvs xs → (xs.any fun kv => decide (kv.1 = k)) = kvs.any fun kv => decide (kv.1 = k)
  | [], _, r => by rw [repK_nil.mp r]; rfl
  | (k1, d) :: kvs, _, r => by
    obtain ⟨v, xs, rfl, _, h2⟩ := repK_cons.mp r
    rw [List.any_cons, List.any_cons, repK_some h2]
theorem repK_repl {k : Key} {d : D} {v : V} (rv : Rep B w F d v) : ∀ {kvs : List (Key × D)} {xs : List (Key × V)}, RepK B w F kvs xs → RepK B w F (kvs.map fun kv => if kv.1 = k then (kv.1, d) else kv) (xs.map fun kv => if kv.1 = k then (kv.1, v) else kv)
  | [], _, r => by rw [repK_nil.mp r]; exact repK_nil.mpr rfl
  | (k1, d1) :: kvs, _, r => by
    obtain ⟨v1, xs, rfl, h1, h2⟩ := repK_cons.mp r
    rw [List.map_cons, List.map_cons]
    by_cases hk : k1 = k
    · rw [if_pos hk, if_pos hk]; exact repK_cons.mpr ⟨v, _, rfl, rv, repK_repl rv h2⟩
    · rw [if_neg hk, if_neg hk]; exact repK_cons.mpr ⟨v1, _, rfl, h1, repK_repl rv h2⟩
theorem repK_snoc {k : Key} {d : D} {v : V} (rv : Rep B w F d v) : ∀ {kvs : List (Key × D)} {xs : List (Key × V)}, RepK B w F kvs xs → RepK B w F (kvs ++ [(k, d)]) (xs ++ [(k, v)])
  | [], _, r => by rw [repK_nil.mp r]; exact repK_cons.mpr ⟨v, [], rfl, rv, repK_nil.mpr rfl⟩
  | (k1, d1) :: kvs, _, r => by
    obtain ⟨v1, xs, rfl, h1, h2⟩ := repK_cons.mp r
    exact repK_cons.mpr ⟨v1, _, rfl, h1, repK_snoc rv h2⟩
theorem repK_put {k : Key} {d : D} {v : V} (rv : Rep B w F d v) {kvs : List (Key × D)} {xs : List (Key × V)} (r : RepK B w F kvs xs) : RepK B w F (putKD kvs k d) (putK xs k v) := by
  unfold putKD putK
  rw [repK_some r]
  by_cases h : (kvs.any fun kv => decide (kv.1 = k)) = true
  · rw [if_pos h, if_pos h]; exact repK_repl rv r
  · rw [if_neg h, if_neg h]; exact repK_snoc rv r
theorem repK_merge : ∀ {more : List (Key × D)} {ys : List (Key × V)} {kvs : List (Key × D)} {xs : List (Key × V)}, RepK B w F more ys → RepK B w F kvs xs → RepK B w F (mergeD kvs more) (mergeK xs ys)
  | [], _, _, _, r, r0 => by rw [repK_nil.mp r]; exact r0
  | (k, d) :: more, _, kvs, xs, r, r0 => by
    obtain ⟨v, ys, rfl, h1, h2⟩ := repK_cons.mp r
    show RepK B w F (mergeD (putKD kvs k d) more) (mergeK (putK xs k v) ys)
    exact repK_merge h2 (repK_put h1 r0)
end
def kyD : D → Option Key
  | .int i => some (.inl i)
  | .str x => some (.inr x)
  | _ => none
def prsD : List D → Option (List (Key × D))
  | [] => some []
  | .tup _ [k, d] :: r => match kyD k with
    | some k => match prsD r with
      | some l => some ((k, d) :: l)
      | none => none
    | none => none
  | _ :: _ => none
theorem kyD_rep {B : Bs} {w : Wd} {F : Hp} : ∀ {d : D} {k : Key} {v : V}, kyD d = some k → Rep B w F d v → v = kV k
  | .int _, _, _, h, r => by cases h; exact rep_int.mp r
  | .str _, _, _, h, r => by cases h; exact rep_str.mp r
theorem prsD_rep {B : Bs} {w : Wd} {F : Hp} : ∀ {ds : List D} {kvs : List (Key × D)} {xs : List V}, prsD ds = some kvs → Reps B w F ds xs → ∃ (ps : List Addr) (ys : List (Key × V)), xs = ps.map V.ref ∧ Paired (fun p kv => SqT B.K F p [kV kv.1, kv.2]) ps ys ∧ RepK B w F kvs ys
  | [], _, _, h, r => by
    cases h
    rw [reps_nil.mp r]
    exact ⟨[], [], rfl, .nil, repK_nil.mpr rfl⟩
  | .tup _ [k, d] :: r, _, _, h, rr => by
    obtain ⟨v, xs, rfl, h1, h2⟩ := reps_cons.mp rr
    unfold prsD at h
    cases hk : kyD k with
    | none => rw [hk] at h; cases h
    | some k0 =>
      rw [hk] at h
      cases hr : prsD r with
      | none => rw [hr] at h; cases h
      | some l =>
        rw [hr] at h
        cases h
        obtain ⟨p, us, rfl, h3, h4⟩ := rep_tupE h1
        obtain ⟨a, us, rfl, h5, h6⟩ := reps_cons.mp h4
        obtain ⟨b, us, rfl, h7, h8⟩ := reps_cons.mp h6
        cases reps_nil.mp h8
        cases kyD_rep hk h5
        obtain ⟨ps, ys, rfl, h9, h10⟩ := prsD_rep hr h2
        exact ⟨p :: ps, (k0, b) :: ys, rfl, .cons h3 h9, repK_cons.mpr ⟨b, ys, rfl, h7, h10⟩⟩
def rDicT (K : PySem.W.Frag) : List V → Hp → VK → Prop := fun xs H Q => ∃ (a : Addr) (ob : Obj) (ps : List Addr) (kvs : List (Key × V)), xs = [.ref a] ∧ H a = some (.frz ob (.tup (ps.map V.ref))) ∧ ob.dict = none ∧ Paired (fun p kv => SqT K H p [kV kv.1, kv.2]) ps kvs ∧
  ∀ p, H p = none → Q (.ref p) (upd H p (.dK (mergeK [] kvs)))
theorem prs_at {X : Cx} {pins : List (Addr × Obj)} {σ : L2.St} {H : Hp} {s : Shared} (I : Inv X pins σ H s) : ∀ {ps : List Addr} {kvs : List (Key × V)}, Paired (fun p kv => SqT X.K H p [kV kv.1, kv.2]) ps kvs →
    ∃ (prs : List (Key × Value)) (us : List Value), KV kvs prs ∧ prs.length = ps.length ∧ us.length = ps.length ∧ ∀ (j : Nat) (q : Key × Value) (u : Value), prs[j]? = some q → us[j]? = some u → ∃ b, ps[j]? = some b ∧ IsTup s.heap b #[u, q.2] ∧ keyIs q.1 u = true
  | _, _, .nil => ⟨[], [], .nil, rfl, rfl, fun j q u e _ => by simp at e⟩
  | _, _, .cons (a := p) (b := kv) h t => by
    obtain ⟨prs, us, r1, l1, l2, hp⟩ := prs_at I t
    obtain ⟨its, rv, ht, _⟩ := I.tuple h
    obtain ⟨u, y, ei, ru, ry⟩ := vals2 rv
    subst ei
    refine ⟨(kv.1, y) :: prs, u :: us, .cons ⟨rfl, ry⟩ r1, by rw [List.length_cons, List.length_cons, l1], by rw [List.length_cons, List.length_cons, l2], fun j q u' e1 e2 => ?_⟩
    cases j with
    | zero =>
      cases (show some (kv.1, y) = some q from e1)
      cases (show some u = some u' from e2)
      exact ⟨p, rfl, ht, kV_is (P := X.prog) (w := X.w) ru⟩
    | succ j =>
      obtain ⟨b, e3, e4, e5⟩ := hp j q u' (by simpa using e1) (by simpa using e2)
      exact ⟨b, by simpa using e3, e4, e5⟩
theorem call_dicT {X : Cx} (calm : X.calm = true) : CallR X (.type "dict") (rDicT X.K) := by
  intro pins s σ H xs us Q I r q
  obtain ⟨a, ob, ps, kvs, ex, hH, hob, hp, q⟩ := q
  subst ex
  obtain ⟨u, eu, rx⟩ := vals1 r
  subst eu
  cases rx
  obtain ⟨hget, hz, its, rv, ⟨o2, ho2, hc2, n2, hd2⟩⟩ := (show s.heap.get? a = some ob ∧ ObjOk X.prog X.w H s.heap a (.tup (ps.map V.ref)) from I.hok a _ hH)
  rw [hget] at ho2
  cases ho2
  have ei := refs_at rv
  subst ei
  rw [List.length_map] at hz
  obtain ⟨prs, ks, rel, l1, l2, hpr⟩ := prs_at I hp
  let pv : List (Value × Value) := List.zipWith (fun k q => (k, q.2)) ks prs
  have lpv : pv.length = ps.length := by simp [pv, l1, l2]
  have gpv : ∀ (j : Nat) (k v : Value), pv[j]? = some (k, v) → ∃ q, prs[j]? = some q ∧ ks[j]? = some k ∧ q.2 = v := fun j k v e => by
    rw [List.getElem?_zipWith] at e
    cases h1 : ks[j]? with
    | none => rw [h1] at e; cases e
    | some k1 =>
      cases h2 : prs[j]? with
      | none => rw [h1, h2] at e; cases e
      | some q1 =>
        rw [h1, h2] at e
        cases e
        exact ⟨q1, rfl, rfl, rfl⟩
  have items : PairItems s.heap (ps.map Value.ref).toArray (fun j => (ps[j]?).getD 0) pv := ⟨by simp [lpv], fun j k v e => by
    obtain ⟨q1, e1, e2, e3⟩ := gpv j k v e
    obtain ⟨b, e4, e5, _⟩ := hpr j q1 k e1 e2
    subst e3
    exact ⟨by simp [e4], .inl (by show s.heap.IsTuple ((ps[j]?).getD 0) _; rw [e4]; exact e5)⟩⟩
  have have_ : PairsHave (mixKind X.prog X.w) pv.length (PairRel pv) prs := ⟨by rw [l1, lpv], fun i key v e => by
    obtain ⟨q1, e1, e2, e3⟩ := gpv i key v e
    obtain ⟨b, _, _, e6⟩ := hpr i q1 key e1 e2
    subst e3
    exact ⟨q1.1, e1, e6⟩⟩
  refine PySem.call_dict_pairs (knd := mixKind X.prog X.w) (PairArg.tuple a (ps.map Value.ref).toArray (fun j => (ps[j]?).getD 0) pv) (I.ok.hd calm) ⟨⟨ob, n2, hget, hc2, hob, hd2⟩, items⟩ have_ (by rw [lpv]; exact hz) fun h1 tk1 hd k => ?_
  have hm : (s.heap.objs.size == sysModules) = false := beq_eq_false_iff_ne.mpr (Nat.ne_of_gt I.big)
  have hlen : (mergeK [] kvs).length ≤ sizeLine := by
    refine Nat.le_trans (length_mergeK kvs []) ?_
    rw [List.length_nil, Nat.zero_add, rel.length, l1]
    exact hz
  exact ⟨.ref s.heap.objs.size, upd H s.heap.objs.size (.dK (mergeK [] kvs)), I.laid (t' := tk1) (fun b o e => k b o (by simp) e) (Nat.le_refl _) (show ObjOk X.prog X.w _ _ _ (.dK (mergeK [] kvs)) from ⟨hlen, hm, merged [] prs, KV.merge rel .nil, hd⟩), rfl, q _ (I.hok.fresh (Nat.le_refl _))⟩
def dicF : D → Option D
  | .tup true ds => match prsD ds with
    | some kvs => some (.dic false (mergeD [] kvs))
    | none => none
  | _ => none
def o_dicT (B : Bs) : OC B := .one dicF (rDicT B.K) fun {w F H v d} ex r => by
  cases d with
  | tup pl ds =>
    cases pl with
    | false => exact fun z hz => nomatch hz
    | true =>
      show OkV B w F H _ (match prsD ds with
        | some kvs => some (.dic false (mergeD [] kvs))
        | none => none)
      cases hp : prsD ds with
      | none => exact fun z hz => nomatch hz
      | some kvs =>
        obtain ⟨p, us, rfl, h3, h4, ob, h5, h6⟩ := rep_tupP r
        obtain ⟨ps, ys, rfl, h7, h8⟩ := prsD_rep hp h4
        exact (OkV.new (o := .dK (mergeK [] ys)) ex fun q hq => rep_dic.mpr ⟨q, _, rfl, .inl upd_same, (repK_merge h8 (repK_nil.mpr rfl)).mono (Ex.new hq)⟩).imp fun Q q => ⟨p, ob, ps, ys, rfl, ex _ _ h5, h6, L2.Paired.mapP h7 fun _ _ z => ex_t ex z, q⟩
  | _ => exact fun z hz => nomatch hz
end Dv

set_option Elab.async false
set_option linter.all false
set_option maxRecDepth 100000
/-! # isinstance, is None, texts put together -/
namespace Dv
open PySem PySem.Spec PyProof.Rows L2 Evl

theorem PE.imp {X : Cx} {e : Expr} {t t' : TE} (h : PE X e t') (i : ∀ σ H Q, t σ H Q → t' σ H Q) : PE X e t := ⟨fun pins s σ H Q I q => h.run pins s σ H Q I (i σ H Q q)⟩

/-- kinds of data -/
inductive Kd where
  | non | bl | int | str | lst | tup | dic | ins (c : Str)
deriving DecidableEq
def Kd.ty (B : Bs) : Kd → Value
  | .non => .type "NoneType"
  | .bl => .type "bool"
  | .int => .type "int"
  | .str => .type "str"
  | .lst => .type "list"
  | .tup => .type "tuple"
  | .dic => .type "dict"
  | .ins c => .ref (B.ca c)
def kdD : D → Option Kd
  | .non => some .non
  | .bl _ => some .bl
  | .int _ => some .int
  | .str _ => some .str
  | .lst _ => some .lst
  | .rol _ => some .lst
  | .tup _ _ => some .tup
  | .dic _ _ => some .dic
  | .ins c _ => some (.ins c)
  | .hnd => none
def TyK (B : Bs) (k : Kd) (x : V) (H : Hp) : Prop := match k with
  | .ins c => ∃ p dx fs, x = .ref p ∧ H p = some (.ins (B.ca c) dx fs)
  | k => TyX B.K H x (k.ty B)
theorem ty_seq {K : PySem.W.Frag} {H : Hp} {p : Addr} {xs : List V} (h : SqL K H p xs) : TyX K H (.ref p) (.type "list") := by
  rcases h with h | ⟨o, its, n, h1, h2, _⟩
  · rcases h with h | ⟨o, h⟩
    · exact .base (.lst h)
    · exact .base (.frz h)
  · exact .kList h1 h2
theorem ty_tup {K : PySem.W.Frag} {H : Hp} {p : Addr} {xs : List V} (h : SqT K H p xs) : TyX K H (.ref p) (.type "tuple") := by
  rcases h with h | ⟨o, its, n, h1, h2, _⟩
  · rcases h with h | ⟨o, h⟩
    · exact .base (.tup h)
    · exact .fTuple h
  · exact .kTuple h1 h2
theorem rep_kd {B : Bs} {w : Wd} {F H : Hp} (e : Ex F H) : ∀ {d : D} {v : V} {k : Kd}, Rep B w F d v → kdD d = some k → TyK B k v H
  | .non, _, _, r, h => by cases h; cases rep_non.mp r; exact .base .non
  | .bl _, _, _, r, h => by cases h; cases rep_bl.mp r; exact .base (.bl _)
  | .int _, _, _, r, h => by cases h; cases rep_int.mp r; exact .base (.int _)
  | .str _, _, _, r, h => by cases h; cases rep_str.mp r; exact .base (.str _)
  | .lst _, _, _, r, h => by cases h; obtain ⟨p, xs, rfl, h1, _⟩ := rep_lst.mp r; exact ty_seq (sq_of (e _ _ h1))
  | .rol _, _, _, r, h => by cases h; obtain ⟨p, rfl, h1⟩ := rep_rol.mp r; exact ty_seq (ex_l e h1)
  | .tup _ _, _, _, r, h => by cases h; obtain ⟨p, xs, rfl, h1, _⟩ := rep_tupE r; exact ty_tup (ex_t e h1)
  | .dic _ _, _, _, r, h => by
    cases h
    obtain ⟨p, xs, rfl, h1, _⟩ := rep_dicE r
    rcases h1 with h1 | ⟨o, h1⟩
    · exact .base (.dK (e _ _ h1))
    · exact .fDict (e _ _ h1)
  | .ins c _, _, _, r, h => by cases h; obtain ⟨p, dx, xs, rfl, h1, _⟩ := rep_ins.mp r; exact ⟨p, dx, xs, rfl, e _ _ h1⟩
def isiE (f : Kd → Option Bool) (d : D) (s : HS) : Res := match kdD d with
  | some k => match f k with
    | some b => .ret (.bl b) s
    | none => .stuck
  | none => .stuck
/-- isinstance(x, C) -/
def XE.isi {B : Bs} (f : Kd → Option Bool) (p : XE B) : XE B where
  te := fun Wx σ H Q => p.te Wx σ H fun x H1 => ∃ k b, TyK B k x H1 ∧ f k = some b ∧ Q (.bl b) H1
  ev := fun Γ s => (p.ev Γ s).bind fun d s1 => isiE f d s1
  ok := fun {w F H σ Γ s} Wx e st sl => by
    refine (p.ok Wx e st sl).seq (u := fun x H1 Q => ∃ k b, TyK B k x H1 ∧ f k = some b ∧ Q (.bl b) H1) fun d s1 v F1 H1 _ a1 st1 r1 => ?_
    show OkE B w F1 H1 σ Wx _ (isiE f d s1)
    unfold isiE
    cases hk : kdD d with
    | none => trivial
    | some k =>
      cases hf : f k with
      | none => simp only [hf]; trivial
      | some b =>
        simp only [hf]
        exact OkE.imp (OkE.pure a1.fh st1 (rep_bl.mpr rfl)) fun Q q => ⟨k, b, rep_kd a1.fh r1 hk, hf, q⟩
/-- isinstance(x, (C, D, ..)): the tuple is laid -/
def XE.isiT {B : Bs} (f : Kd → Option Bool) (p : XE B) : XE B where
  te := fun Wx σ H Q => p.te Wx σ H fun x H1 => ∀ (T : Addr) (cs : List V), H1 T = none → ∃ k b, TyK B k x (upd H1 T (.tup cs)) ∧ f k = some b ∧ Q (.bl b) (upd H1 T (.tup cs))
  ev := fun Γ s => (p.ev Γ s).bind fun d s1 => isiE f d s1
  ok := fun {w F H σ Γ s} Wx e st sl => by
    refine (p.ok Wx e st sl).seq (u := fun x H1 Q => ∀ (T : Addr) (cs : List V), H1 T = none → ∃ k b, TyK B k x (upd H1 T (.tup cs)) ∧ f k = some b ∧ Q (.bl b) (upd H1 T (.tup cs))) fun d s1 v F1 H1 _ a1 st1 r1 => ?_
    show OkE B w F1 H1 σ Wx _ (isiE f d s1)
    unfold isiE
    cases hk : kdD d with
    | none => trivial
    | some k =>
      cases hf : f k with
      | none => simp only [hf]; trivial
      | some b =>
        simp only [hf]
        intro Q q T cs hT
        have a2 : Step w F1 H1 (upd F1 T (.tup cs)) (upd H1 T (.tup cs)) := Step.new a1.fh hT
        exact ⟨k, b, rep_kd a2.fh (r1.mono a2.ff) hk, hf, q _ _ _ a2 (st1.new hT) (rep_bl.mpr rfl)⟩
/-- what a class's kinds answer -/
structure IsiOk (B : Bs) (X : Cx) (us : List Value) (f : Kd → Option Bool) : Prop where
  kit : ∀ k b, f k = some b → PySem.W.kitAny X.K (k.ty B) us = some b
  ins : ∀ c b, f (.ins c) = some b → C8.InsC X.K (B.ca c)
theorem tyk_x {B : Bs} {X : Cx} {us : List Value} {f : Kd → Option Bool} {k : Kd} {b : Bool} {x : V} {H : Hp} (hK : B.K = X.K) (h : IsiOk B X us f) (hf : f k = some b) (t : TyK B k x H) : TyX X.K H x (k.ty B) := by
  cases k with
  | ins c =>
    obtain ⟨p, dx, fs, rfl, hp⟩ := t
    have i := h.ins c b hf
    exact .base (.ins hp i.cl i.ha i.hn i.htk i.hm)
  | _ => rw [← hK]; exact t
theorem kit_one {K : PySem.W.Frag} {t u : Value} {b : Bool} (h : PySem.W.kitAny K t [u] = some b) : PySem.W.kitOne K t u = some b := by
  unfold PySem.W.kitAny at h
  cases h1 : PySem.W.kitOne K t u with
  | none => rw [h1] at h; cases h
  | some c =>
    rw [h1] at h
    cases c with
    | true => exact h
    | false => exact h
theorem pe_isi {B : Bs} {X : Cx} {f : Kd → Option Bool} {e c : Expr} {te : TE} {cv : V} {u : Value} {p pos : Pos} (hK : B.K = X.K) (h : IsiOk B X [u] f) (hg : Gl X "isinstance") (hm : X.mg "isinstance" = none) (he : PE X e te) (hc : PE X c (tC cv)) (hu : ClsV cv u)
    (n1 : starEach [e, c] X.env = (false, eval e X.env) :: starEach [c] X.env := by rfl) (n2 : starEach [c] X.env = (false, eval c X.env) :: starEach [] X.env := by rfl) (hpl : (backTo pos (starEach [c] X.env)).any (·.1) = false := by rfl) :
    PE X (.Call (.Name "isinstance" p) [e, c] [] pos) (fun σ H Q => te σ H fun x H1 => ∃ k b, TyK B k x H1 ∧ f k = some b ∧ Q (.bl b) H1) := by
  refine PE.imp (pe_callB (call_isi (X := X)) hg hm (by decide +kernel) (pa_cons (pe_mo he) (pa_cons hc pa_nil n2) n1) (he := n1) (hpl := hpl)) fun σ H Q q => ?_
  refine ⟨_, q, fun x H1 q1 => ?_⟩
  obtain ⟨k, b, t, hf, q1⟩ := q1
  exact ⟨x, cv, k.ty B, u, b, rfl, hu, tyk_x hK h hf t, kit_one (h.kit k b hf), q1⟩
theorem pe_isiT {B : Bs} {X : Cx} {f : Kd → Option Bool} {e : Expr} {es : List Expr} {te : TE} {ta : TA} {cs : List V} {us : List Value} {p pos tpos : Pos} {x1} (hK : B.K = X.K) (h : IsiOk B X us f) (hg : Gl X "isinstance") (hm : X.mg "isinstance" = none) (he : PE X e te) (hc : PA X es ta)
    (ht : ∀ σ H (Q : List V → Hp → Prop), Q cs H → ta σ H Q) (hz : cs.length ≤ 1000) (hu : Paired ClsV cs us)
    (n1 : starEach [e, .Tuple es x1 tpos] X.env = (false, eval e X.env) :: starEach [.Tuple es x1 tpos] X.env := by rfl) (n2 : starEach [.Tuple es x1 tpos] X.env = (false, eval (.Tuple es x1 tpos) X.env) :: starEach [] X.env := by rfl)
    (hpl : (backTo pos (starEach [.Tuple es x1 tpos] X.env)).any (·.1) = false := by rfl) :
    PE X (.Call (.Name "isinstance" p) [e, .Tuple es x1 tpos] [] pos) (fun σ H Q => te σ H fun x H1 => ∀ (T : Addr) (cs : List V), H1 T = none → ∃ k b, TyK B k x (upd H1 T (.tup cs)) ∧ f k = some b ∧ Q (.bl b) (upd H1 T (.tup cs))) := by
  refine PE.imp (pe_callB (call_isiT (X := X)) hg hm (by decide +kernel) (pa_cons (pe_mo he) (pa_cons (pe_tup hc) pa_nil n2) n1) (he := n1) (hpl := hpl)) fun σ H Q q => ?_
  refine ⟨_, q, fun x H1 q1 => ht _ _ _ ⟨Nat.le_trans hz (by decide), fun T hT => ?_⟩⟩
  obtain ⟨k, b, t, hf, q1⟩ := q1 T cs hT
  exact ⟨x, T, cs, k.ty B, us, b, rfl, upd_same, hu, tyk_x hK h hf t, h.kit k b hf, q1⟩

/-! ### x is None -/
def o_isN (B : Bs) : O2 B where
  r := rIsN
  f := fun d e => match e with
    | .non => match d with
      | .non => some (.bl true)
      | .hnd => none
      | _ => some (.bl false)
    | _ => none
  ok := fun {w F H x y d e} ex r1 r2 => by
    cases e with
    | non =>
      cases rep_non.mp r2
      cases d with
      | non => cases rep_non.mp r1; exact (OkV.pure ex (rep_bl.mpr rfl)).imp fun Q q => ⟨rfl, q⟩
      | hnd => exact fun z hz => nomatch hz
      | bl _ => cases rep_bl.mp r1; exact (OkV.pure ex (rep_bl.mpr rfl)).imp fun Q q => ⟨rfl, q⟩
      | int _ => cases rep_int.mp r1; exact (OkV.pure ex (rep_bl.mpr rfl)).imp fun Q q => ⟨rfl, q⟩
      | str _ => cases rep_str.mp r1; exact (OkV.pure ex (rep_bl.mpr rfl)).imp fun Q q => ⟨rfl, q⟩
      | lst _ => obtain ⟨p, xs, rfl, _⟩ := rep_lst.mp r1; exact (OkV.pure ex (rep_bl.mpr rfl)).imp fun Q q => ⟨rfl, q⟩
      | rol _ => obtain ⟨p, rfl, _⟩ := rep_rol.mp r1; exact (OkV.pure ex (rep_bl.mpr rfl)).imp fun Q q => ⟨rfl, q⟩
      | tup _ _ => obtain ⟨p, xs, rfl, _⟩ := rep_tupE r1; exact (OkV.pure ex (rep_bl.mpr rfl)).imp fun Q q => ⟨rfl, q⟩
      | dic _ _ => obtain ⟨p, xs, rfl, _⟩ := rep_dicE r1; exact (OkV.pure ex (rep_bl.mpr rfl)).imp fun Q q => ⟨rfl, q⟩
      | ins _ _ => obtain ⟨p, _, _, rfl, _⟩ := rep_ins.mp r1; exact (OkV.pure ex (rep_bl.mpr rfl)).imp fun Q q => ⟨rfl, q⟩
    | _ => exact fun z hz => nomatch hz

/-! ### f'..' -/
def fmtE (d : D) (s : HS) : Res := match d with
  | .str y => if y.length ≤ 100000 then .ret (.str y) s else .stuck
  | .int i => if i.natAbs.log2 < 1920 then .ret (.str (toString i)) s else .stuck
  | _ => .stuck
/-- {x} -/
def XE.fmt {B : Bs} (p : XE B) : XE B where
  te := fun Wx => tFmt (p.te Wx)
  ev := fun Γ s => (p.ev Γ s).bind fun d s1 => fmtE d s1
  ok := fun {w F H σ Γ s} Wx e st sl => by
    refine (p.ok Wx e st sl).seq (u := fun x H1 Q => (∃ y : Str, x = .str y ∧ y.length ≤ sizeLine ∧ Q (.str y) H1) ∨ ∃ i : Int, x = .int i ∧ i.natAbs.log2 < 1920 ∧ Q (.str (toString i)) H1) fun d s1 v F1 H1 _ a1 st1 r1 => ?_
    cases d with
    | str y =>
      cases rep_str.mp r1
      show OkE B w F1 H1 σ Wx _ (if y.length ≤ 100000 then .ret (.str y) s1 else .stuck)
      by_cases hc : y.length ≤ 100000
      · rw [if_pos hc]; exact OkE.imp (OkE.pure a1.fh st1 (rep_str.mpr rfl)) fun Q q => .inl ⟨y, rfl, sz_of hc, q⟩
      · rw [if_neg hc]; trivial
    | int i =>
      cases rep_int.mp r1
      show OkE B w F1 H1 σ Wx _ (if i.natAbs.log2 < 1920 then .ret (.str (toString i)) s1 else .stuck)
      by_cases hc : i.natAbs.log2 < 1920
      · rw [if_pos hc]; exact OkE.imp (OkE.pure a1.fh st1 (rep_str.mpr rfl)) fun Q q => .inr ⟨i, rfl, hc, q⟩
      · rw [if_neg hc]; trivial
    | _ => trivial
def jnE {B : Bs} (Γ : Gm) : List (XE B) → Str → HS → Res
  | [], acc, s => .ret (.str acc) s
  | p :: ps, acc, s => (p.ev Γ s).bind fun d s1 => match d with
    | .str y => if (acc ++ y).length ≤ 100000 then jnE Γ ps (acc ++ y) s1 else .stuck
    | _ => .stuck
theorem jn_ok {B : Bs} {w : Wd} {σ : L2.St} {Γ : Gm} (Wx : WX) : ∀ (ps : List (XE B)) {F H : Hp} {s : HS} (acc : Str), Ex F H → StAt w s F H → SlsAt B w F H Γ σ →
    OkE B w F H σ Wx (fun Q => tJs (ps.map fun p => p.te Wx) acc σ H fun out H1 => Q (.str out) H1) (jnE Γ ps acc s)
  | [], F, H, s, acc, e, st, sl => OkE.pure e st (rep_str.mpr rfl)
  | p :: ps, F, H, s, acc, e, st, sl => by
    refine (p.ok Wx e st sl).seq (u := fun x H1 Q => ∃ y : Str, x = .str y ∧ (acc ++ y).length ≤ sizeLine ∧ tJs (ps.map fun p => p.te Wx) (acc ++ y) σ H1 fun out H1 => Q (.str out) H1) fun d s1 v F1 H1 _ a1 st1 r1 => ?_
    cases d with
    | str y =>
      cases rep_str.mp r1
      show OkE B w F1 H1 σ Wx _ (if (acc ++ y).length ≤ 100000 then jnE Γ ps (acc ++ y) s1 else .stuck)
      by_cases hc : (acc ++ y).length ≤ 100000
      · rw [if_pos hc]; exact OkE.imp (jn_ok Wx ps (acc ++ y) a1.fh st1 (sl.step a1)) fun Q q => ⟨y, rfl, sz_of hc, q⟩
      · rw [if_neg hc]; trivial
    | _ => trivial
/-- f'..' of two parts or more -/
def XE.jn {B : Bs} (ps : List (XE B)) : XE B where
  te := fun Wx σ H Q => tJs (ps.map fun p => p.te Wx) Str.empty σ H fun out H1 => Q (.str out) H1
  ev := fun Γ s => jnE Γ ps Str.empty s
  ok := fun {w F H σ Γ s} Wx e st sl => jn_ok Wx ps Str.empty e st sl
end Dv

set_option Elab.async false
set_option linter.all false
set_option maxRecDepth 100000
/-! # The source of draws: what is read of it, what is written -/
namespace Dv
open PySem PySem.Spec PyProof.Rows L2 Evl

section
variable {B : Bs} {w : Wd} {F H : Hp} {s : HS}
theorem hnd_at {σ : L2.St} {Γ : Gm} {i : Nat} (sl : SlsAt B w F H Γ σ) (h : Γ[i]? = some (.fr .hnd)) : ∃ ha ca, w = some (ha, ca) ∧ σ[i]? = some (some (.ref ha)) := by
  obtain ⟨v, h1, x, h2, r⟩ := sl i _ h
  obtain ⟨ha, ca, e1, e2⟩ := rep_hnd.mp r
  subst h2 e2
  exact ⟨ha, ca, e1, h1⟩
theorem step_h {ha ca : Addr} (e : Ex F H) (st : StAt (some (ha, ca)) s F H) (x y : Int) : Step (some (ha, ca)) F H F (upd H ha (.lst [.int x, .ref ca, .int y])) ∧ StAt (some (ha, ca)) { s with st := x, ix := y } F (upd H ha (.lst [.int x, .ref ca, .int y])) := by
  obtain ⟨h1, h2, h3, h4, h5⟩ := st
  refine ⟨⟨Ex.refl F, fun a u q => ?_, fun a u q1 q2 q3 => ⟨q2, ?_⟩⟩, h1, h2, h3, upd_same, ?_⟩
  · have n : a ≠ ha := fun z => by rw [z, h2] at q; cases q
    rw [upd_ne n]; exact e a u q
  · rw [upd_ne q3.1]; exact q1
  · rw [upd_ne (Ne.symm h1)]; exact h5
theorem step_c {ha ca : Addr} (e : Ex F H) (st : StAt (some (ha, ca)) s F H) (ns : List Int) : Step (some (ha, ca)) F H F (upd H ca (.lst (ns.map V.int))) ∧ StAt (some (ha, ca)) { s with cells := ns } F (upd H ca (.lst (ns.map V.int))) := by
  obtain ⟨h1, h2, h3, h4, h5⟩ := st
  refine ⟨⟨Ex.refl F, fun a u q => ?_, fun a u q1 q2 q3 => ⟨q2, ?_⟩⟩, h1, h2, h3, ?_, upd_same⟩
  · have n : a ≠ ca := fun z => by rw [z, h3] at q; cases q
    rw [upd_ne n]; exact e a u q
  · rw [upd_ne q3.2]; exact q1
  · rw [upd_ne h1]; exact h4
end
def isHnd (Γ : Gm) (i : Nat) : Bool := match Γ[i]? with
  | some (.fr .hnd) => true
  | _ => false
theorem isHnd_eq {Γ : Gm} {i : Nat} (h : isHnd Γ i = true) : Γ[i]? = some (.fr .hnd) := by
  unfold isHnd at h
  split at h
  · rename_i e; exact e
  · cases h
/-- h[0] -/
def XE.h0 (B : Bs) (i : Nat) : XE B where
  te := fun _ => tOp (rIxL B.K) (tVar i) (tC (.int 0))
  ev := fun Γ s => if isHnd Γ i = true then .ret (.int s.st) s else .stuck
  ok := fun {w F H σ Γ s} Wx e st sl => by
    by_cases h : isHnd Γ i = true
    · rw [if_pos h]
      obtain ⟨ha, ca, rfl, h1⟩ := hnd_at sl (isHnd_eq h)
      exact fun Q q => ⟨_, h1, ha, _, 0, .int s.st, rfl, rfl, sq_of st.2.2.2.1, rfl, q _ F H (Step.refl e) st (rep_int.mpr rfl)⟩
    · rw [if_neg h]; trivial
/-- h[2] -/
def XE.h2 (B : Bs) (i : Nat) : XE B where
  te := fun _ => tOp (rIxL B.K) (tVar i) (tC (.int 2))
  ev := fun Γ s => if isHnd Γ i = true then .ret (.int s.ix) s else .stuck
  ok := fun {w F H σ Γ s} Wx e st sl => by
    by_cases h : isHnd Γ i = true
    · rw [if_pos h]
      obtain ⟨ha, ca, rfl, h1⟩ := hnd_at sl (isHnd_eq h)
      exact fun Q q => ⟨_, h1, ha, _, 2, .int s.ix, rfl, rfl, sq_of st.2.2.2.1, rfl, q _ F H (Step.refl e) st (rep_int.mpr rfl)⟩
    · rw [if_neg h]; trivial
/-- h[1] + [0] -/
def XE.hcat (B : Bs) (i : Nat) : XE B where
  te := fun _ => tOp rCat (tOp (rIxL B.K) (tVar i) (tC (.int 1))) (tLst (tCons (tC (.int 0)) tNil))
  ev := fun Γ s => if isHnd Γ i = true ∧ s.cells.length + 1 ≤ 100000 then .ret (.lst ((s.cells ++ [0]).map D.int)) s else .stuck
  ok := fun {w F H σ Γ s} Wx e st sl => by
    by_cases h : isHnd Γ i = true ∧ s.cells.length + 1 ≤ 100000
    · rw [if_pos h]
      obtain ⟨ha, ca, rfl, h1⟩ := hnd_at sl (isHnd_eq h.1)
      intro Q q
      refine ⟨_, h1, ha, _, 1, .ref ca, rfl, rfl, sq_of st.2.2.2.1, rfl, by show 1 ≤ sizeLine; decide, fun p hp => ?_⟩
      have nc : ca ≠ p := ne_of_none st.2.2.2.2 hp
      have a1 : Step (some (ha, ca)) F H (upd F p (.lst [.int 0])) (upd H p (.lst [.int 0])) := Step.new e hp
      have s1 := st.new (o := .lst [.int 0]) hp
      refine ⟨ca, p, _, _, rfl, rfl, s1.2.2.2.2, upd_same, by rw [List.length_map]; exact sz_of h.2, fun r hr => ?_⟩
      have a2 := Step.new (w := some (ha, ca)) (o := .lst (s.cells.map V.int ++ [.int 0])) a1.fh hr
      refine q _ _ _ (a1.trans a2) (s1.new hr) (rep_lst.mpr ⟨r, _, rfl, upd_same, ?_⟩)
      have : (s.cells.map V.int ++ [V.int 0]) = (s.cells ++ [0]).map V.int := by simp
      rw [this]
      exact reps_ints
    · rw [if_neg h]; trivial
/-- len(h[1]) -/
def XE.hlen (B : Bs) (i : Nat) : XE B where
  te := fun _ => tCB (o_len B).r (tCons (tOp (rIxL B.K) (tVar i) (tC (.int 1))) tNil)
  ev := fun Γ s => if isHnd Γ i = true then .ret (.int (s.cells.length : Nat)) s else .stuck
  ok := fun {w F H σ Γ s} Wx e st sl => by
    by_cases h : isHnd Γ i = true
    · rw [if_pos h]
      obtain ⟨ha, ca, rfl, h1⟩ := hnd_at sl (isHnd_eq h)
      intro Q q
      refine ⟨_, h1, ha, _, 1, .ref ca, rfl, rfl, sq_of st.2.2.2.1, rfl, .ref ca, _, rfl, .inl ⟨_, sq_of st.2.2.2.2, rfl⟩, ?_⟩
      rw [List.length_map]
      exact q _ F H (Step.refl e) st (rep_int.mpr rfl)
    · rw [if_neg h]; trivial
def hput (j : Nat) (d : D) (Γ : Gm) (i : Nat) (s : HS) : Out := match d with
  | .int n => if isHnd Γ i = true then .nxt Γ (if j = 0 then { s with st := n } else { s with ix := n }) else .stuck
  | _ => .stuck
/-- h[0] = e -/
def XS.h0 {B : Bs} (i : Nat) (p : XE B) : XS B where
  ts := fun Wx => tAsg (p.te Wx) (gSub (tVar i) (tC (.int 0)) rSetL)
  ev := fun Γ s => (p.ev Γ s).out Γ fun d s1 => hput 0 d Γ i s1
  ok := fun {w Z F H σ Γ s} Wx D' g => by
    refine (p.ok Wx g.fh g.st g.sl).stm g (u := fun x H1 => gSub (tVar i) (tC (.int 0)) rSetL x σ H1 D'.nx) fun d s1 v F1 H1 _ a g1 r => ?_
    cases d with
    | int n =>
      show OkS B w Z F1 Wx D' _ (if isHnd Γ i = true then .nxt Γ { s1 with st := n } else .stuck)
      by_cases h : isHnd Γ i = true
      · rw [if_pos h]
        obtain ⟨ha, ca, rfl, h1⟩ := hnd_at g1.sl (isHnd_eq h)
        cases rep_int.mp r
        obtain ⟨k1, k2⟩ := step_h g1.fh g1.st n s1.ix
        exact fun q => ⟨_, h1, ha, _, 0, 0, rfl, rfl, g1.st.2.2.2.1, rfl, q F1 _ σ (Ex.refl F1) (g1.step k1 k2)⟩
      · rw [if_neg h]; trivial
    | _ => trivial
/-- h[2] = e -/
def XS.h2 {B : Bs} (i : Nat) (p : XE B) : XS B where
  ts := fun Wx => tAsg (p.te Wx) (gSub (tVar i) (tC (.int 2)) rSetL)
  ev := fun Γ s => (p.ev Γ s).out Γ fun d s1 => hput 2 d Γ i s1
  ok := fun {w Z F H σ Γ s} Wx D' g => by
    refine (p.ok Wx g.fh g.st g.sl).stm g (u := fun x H1 => gSub (tVar i) (tC (.int 2)) rSetL x σ H1 D'.nx) fun d s1 v F1 H1 _ a g1 r => ?_
    cases d with
    | int n =>
      show OkS B w Z F1 Wx D' _ (if isHnd Γ i = true then .nxt Γ { s1 with ix := n } else .stuck)
      by_cases h : isHnd Γ i = true
      · rw [if_pos h]
        obtain ⟨ha, ca, rfl, h1⟩ := hnd_at g1.sl (isHnd_eq h)
        cases rep_int.mp r
        obtain ⟨k1, k2⟩ := step_h g1.fh g1.st s1.st n
        exact fun q => ⟨_, h1, ha, _, 2, 2, rfl, rfl, g1.st.2.2.2.1, rfl, q F1 _ σ (Ex.refl F1) (g1.step k1 k2)⟩
      · rw [if_neg h]; trivial
    | _ => trivial
def hcut (d e : D) (Γ : Gm) (i : Nat) (s : HS) : Out := match d with
  | .int n => match e with
    | .int k => if isHnd Γ i = true then match ixN s.cells.length k with
        | some j => .nxt Γ { s with cells := s.cells.set j n }
        | none => .stuck
      else .stuck
    | _ => .stuck
  | _ => .stuck
/-- h[1][k] = e -/
def XS.hc {B : Bs} (i : Nat) (k p : XE B) : XS B where
  ts := fun Wx => tAsg (p.te Wx) (gSub (tOp (rIxL B.K) (tVar i) (tC (.int 1))) (k.te Wx) rSetL)
  ev := fun Γ s => if isHnd Γ i = true then (p.ev Γ s).out Γ fun d s1 => (k.ev Γ s1).out Γ fun e s2 => hcut d e Γ i s2 else .stuck
  ok := fun {w Z F H σ Γ s} Wx D' g => by
    refine if h : isHnd Γ i = true then ?_ else by rw [if_neg h]; trivial
    rw [if_pos h]
    refine (p.ok Wx g.fh g.st g.sl).stm g (u := fun x H1 => gSub (tOp (rIxL B.K) (tVar i) (tC (.int 1))) (k.te Wx) rSetL x σ H1 D'.nx) fun d s1 v F1 H1 _ a g1 r => ?_
    · obtain ⟨ha, ca, rfl, h1⟩ := hnd_at g1.sl (isHnd_eq h)
      refine OkS.imp (t := k.te Wx σ H1 fun j H2 => rSetL (.ref ca) j v H2 fun H3 => D'.nx σ H3) ?_ fun q => ⟨_, h1, ha, _, 1, .ref ca, rfl, rfl, sq_of g1.st.2.2.2.1, rfl, q⟩
      refine (k.ok Wx g1.fh g1.st g1.sl).stm g1 (u := fun j H2 => rSetL (.ref ca) j v H2 fun H3 => D'.nx σ H3) fun e s2 v2 F2 H2 _ a2 g2 r2 => ?_
      cases d with
      | int n =>
        cases e with
        | int j =>
          show OkS B _ Z F2 Wx D' _ (if isHnd Γ i = true then match ixN s2.cells.length j with
            | some j => .nxt Γ { s2 with cells := s2.cells.set j n }
            | none => .stuck
          else .stuck)
          rw [if_pos h]
          cases hj : ixN s2.cells.length j with
          | none => trivial
          | some m =>
            cases rep_int.mp r
            cases rep_int.mp r2
            obtain ⟨k1, k2⟩ := step_c g2.fh g2.st (s2.cells.set m n)
            refine fun q => ⟨ca, _, j, m, rfl, rfl, g2.st.2.2.2.2, by rw [List.length_map]; exact hj, ?_⟩
            have em : (s2.cells.map V.int).set m (V.int n) = (s2.cells.set m n).map V.int := by rw [List.map_set]
            rw [em]
            exact q F2 _ σ (Ex.refl F2) (g2.step k1 k2)
        | _ => trivial
      | _ => trivial
def o_max2 (B : Bs) : OC B where
  r := fun xs H Q => ∃ i j, xs = [.int i, .int j] ∧ Q (.int (if j > i then j else i)) H
  f := fun ds => match ds with
    | [.int i, .int j] => some (.int (if j > i then j else i))
    | _ => none
  ok := fun {w F H xs ds} ex rs => by
    split
    · obtain ⟨x, r, rfl, h1, h2⟩ := reps_cons.mp rs
      obtain ⟨y, r, rfl, h3, h4⟩ := reps_cons.mp h2
      cases reps_nil.mp h4
      cases rep_int.mp h1
      cases rep_int.mp h3
      exact (OkV.pure ex (rep_int.mpr rfl)).imp fun Q q => ⟨_, _, rfl, q⟩
    · exact fun z hz => nomatch hz
end Dv

set_option Elab.async false
set_option linter.all false
set_option maxRecDepth 100000
/-! # The law's own defs: the source of draws is made, the law's body -/
namespace Dv
open PySem PySem.Spec PyProof.Rows L2 Evl

/-! ### a source is made -/
def mixF (ns : List Int) (k : Int) : Int := ns.foldl (fun st c => (st * 48271 + c % 2147483629 + 1) % 2147483647) k
def spMix (K : PySem.W.Frag) : Sp := fun vs H Q _ => ∃ (a : Addr) (ns : List Int) (k : Int), vs = [.ref a, .int k] ∧ SqL K H a (ns.map V.int) ∧ 0 ≤ k ∧ k < 2147483647 ∧
  ∀ (h c : Addr) (H' : Hp), h ≠ c → H h = none → H c = none → H' h = some (.lst [.int (mixF ns k), .ref c, .int 0]) → H' c = some (.lst (ns.map V.int)) → Ex H H' → Q (.ref h) H'
def rLisL (K : PySem.W.Frag) : List V → Hp → VK → Prop := fun xs H Q => ∃ p ys, xs = [.ref p] ∧ (SqL K H p ys ∨ SqT K H p ys) ∧ ∀ l, H l = none → Q (.ref l) (upd H l (.lst ys))
/-- state = int(state * 48271 + int(cell) % 2147483629 + 1) % 2147483647 -/
def mixE (B : Bs) : XE B := .op2 (o_modI B) (.blt (o_int B) [.op2 (o_add B) (.op2 (o_add B) (.op2 (o_mulI B) (.var B 2) (.int B 48271)) (.op2 (o_modI B) (.blt (o_int B) [.var B 3]) (.int B 2147483629))) (.int B 1)]) (.int B 2147483647)
def mixP (B : Bs) : XS B := .seq (.set 2 (.var B 1)) (.for (.of (.var B 0)) (.name B 3) (.set 2 (mixE B)))
theorem mix_step {B : Bs} {x : Sl} {st c : Int} {s : HS} {a b : Sl} (h0 : 0 ≤ st) (h1 : st < 2147483647) : (mixE B).ev [a, b, .fr (.int st), .fr (.int c)] s = .ret (.int ((st * 48271 + c % 2147483629 + 1) % 2147483647)) s := by
  have hm : CMul st 48271 := .inr ⟨by decide, by decide⟩
  simp [mixE, XE.op2, XE.blt, evs, XE.var, XE.cst, Sl.get, Res.bind, Res.opt, O2.intC, o_add, O2.or, o_addI, O2.int0, o_int, OC.one, hm]
theorem mix_loop {B : Bs} {a b : Sl} {s : HS} : ∀ (ns : List Int) (st : Int) (x : Sl), 0 ≤ st → st < 2147483647 →
    ∃ x', forL (B := B) (.name B 3) (XS.set 2 (mixE B)).ev (ns.map D.int) [a, b, .fr (.int st), x] s = .nxt [a, b, .fr (.int (mixF ns st)), x'] s
  | [], st, x, _, _ => ⟨x, rfl⟩
  | n :: ns, st, x, h0, h1 => by
    have e1 : (XS.set 2 (mixE B)).ev [a, b, .fr (.int st), .fr (.int n)] s = .nxt [a, b, .fr (.int ((st * 48271 + n % 2147483629 + 1) % 2147483647)), .fr (.int n)] s := by
      show ((mixE B).ev [a, b, .fr (.int st), .fr (.int n)] s).out _ _ = _
      rw [mix_step (x := x) h0 h1]
      rfl
    obtain ⟨x', e2⟩ := mix_loop (B := B) (a := a) (b := b) (s := s) ns ((st * 48271 + n % 2147483629 + 1) % 2147483647) (.fr (.int n)) (Int.emod_nonneg _ (by decide)) (Int.emod_lt_of_pos _ (by decide))
    refine ⟨x', ?_⟩
    show ((XS.set 2 (mixE B)).ev [a, b, .fr (.int st), .fr (.int n)] s).turn _ = _
    rw [e1]
    exact e2
theorem mix_ev {B : Bs} {ns : List Int} {k : Int} {s : HS} (h0 : 0 ≤ k) (h1 : k < 2147483647) : ∃ x', (mixP B).ev [.fr (.rol ns), .fr (.int k), .no, .no] s = .nxt [.fr (.rol ns), .fr (.int k), .fr (.int (mixF ns k)), x'] s :=
  mix_loop (B := B) ns k .no h0 h1
theorem mix_body {B : Bs} {N : List Str} (hN : N.length = 4) {vs : List V} {H : Hp} {Q : VK} {E : XK} (Wx : WX) (h : spMix B.K vs H Q E) :
    tSeq ((mixP B).ts Wx) (tRet (tLst (tCons (tVar 2) (tCons (tCB (rLisL B.K) (tCons (tVar 0) tNil)) (tCons (tC (.int 0)) tNil))))) { nx := fun _ H' => Q .non H', rt := Q } (L2.start N vs) H := by
  obtain ⟨a, ns, k, rfl, hs, h0, h1, q⟩ := h
  have g0 := start_good (B := B) (w := none) (F := H) (H := H) (ds := [.rol ns, .int k]) (vs := [.ref a, .int k]) (s := ⟨0, [], 0⟩) (N := N) (Ex.refl H) trivial (reps_cons.mpr ⟨_, _, rfl, rep_rol.mpr ⟨a, rfl, hs⟩, reps_cons.mpr ⟨_, _, rfl, rep_int.mpr rfl, reps_nil.mpr rfl⟩⟩)
  rw [hN] at g0
  obtain ⟨x', ev⟩ := mix_ev (B := B) (ns := ns) (s := ⟨0, [], 0⟩) h0 h1
  have z := (mixP B).ok Wx { nx := tRet (tLst (tCons (tVar 2) (tCons (tCB (rLisL B.K) (tCons (tVar 0) tNil)) (tCons (tC (.int 0)) tNil)))) { nx := fun _ H' => Q .non H', rt := Q }, rt := Q } g0
  have ev' : (mixP B).ev (([D.rol ns, D.int k].map Sl.fr) ++ List.replicate (4 - 2) Sl.no) ⟨0, [], 0⟩ = _ := ev
  rw [show (List.map Sl.fr [D.rol ns, D.int k] ++ List.replicate (4 - [D.rol ns, D.int k].length) Sl.no) = [.fr (.rol ns), .fr (.int k), .no, .no] from rfl, ev] at z
  refine z fun F' H' σ' e g => ?_
  obtain ⟨v2, e2, x2, rfl, r2⟩ := g.sl 2 (.fr (.int (mixF ns k))) rfl
  cases rep_int.mp r2
  obtain ⟨v0, e0, x0, rfl, r0⟩ := g.sl 0 (.fr (.rol ns)) rfl
  obtain ⟨p, rfl, hp⟩ := rep_rol.mp r0
  refine ⟨_, e2, _, e0, p, _, rfl, .inl (ex_l g.fh hp), fun c hc => ?_⟩
  refine ⟨by show 3 ≤ sizeLine; decide, fun hh hhn => ?_⟩
  have nhc : hh ≠ c := fun z => by rw [z, upd_same] at hhn; cases hhn
  have hh1 : H' hh = none := by rw [upd_ne nhc] at hhn; exact hhn
  have back : ∀ b, H' b = none → H b = none := fun b hb => fresh_back (e.trans g.fh) hb
  refine q hh c _ nhc (back hh hh1) (back c hc) upd_same (by rw [upd_ne nhc.symm, upd_same]) fun b o hb => ?_
  have hb' : H' b = some o := g.fh _ _ (e _ _ hb)
  rw [upd_ne (ne_of_none hb' hh1), upd_ne (ne_of_none hb' hc)]
  exact hb'

/-! ### the law's body -/
def spLaw (K : PySem.W.Frag) : Sp := fun vs H Q _ => ∃ (a : Addr) (ns : List Int), vs = [.ref a] ∧ SqL K H a (ns.map V.int) ∧ ns.length ≤ 63 ∧ ∀ H', Q (.bl true) H'
/-- h = mix(script, k); the rest -/
theorem law_body {B : Bs} {N : List Str} {p : XS B} {i : Nat} {k : Int} (hi : 0 < i) (hiN : i < N.length) (h0 : 0 ≤ k) (h1 : k < 2147483647)
    (hev : ∀ ns : List Int, ns.length ≤ 63 → ∃ s', p.ev ((Sl.fr (.rol ns) :: List.replicate (N.length - 1) Sl.no).set i (.fr .hnd)) ⟨mixF ns k, ns, 0⟩ = .ret (.bl true) s') {vs : List V} {H : Hp} {Q : VK} {E : XK} (Wx : WX) (h : spLaw B.K vs H Q E) :
    tSeq (tAsg (tCallS (spMix B.K) (WE Wx) (tCons (tVar 0) (tCons (tC (.int k)) tNil))) (gName i)) (p.ts Wx) { nx := fun _ H' => Q .non H', rt := Q } (L2.start N vs) H := by
  obtain ⟨a, ns, rfl, hs, hn, q⟩ := h
  have g0 := start_good (B := B) (w := none) (F := H) (H := H) (ds := [.rol ns]) (vs := [.ref a]) (s := ⟨0, [], 0⟩) (N := N) (Ex.refl H) trivial (reps_cons.mpr ⟨_, _, rfl, rep_rol.mpr ⟨a, rfl, hs⟩, reps_nil.mpr rfl⟩)
  have e0 : (L2.start N [V.ref a])[0]? = some (some (.ref a)) := rfl
  refine ⟨_, e0, a, ns, k, rfl, hs, h0, h1, fun hd c H' n1 f1 f2 p1 p2 ex => ?_⟩
  obtain ⟨s', ev⟩ := hev ns hn
  have hl : (L2.start N [V.ref a]).length = N.length := by unfold L2.start; simp; omega
  have sth : StAt (some (hd, c)) ⟨mixF ns k, ns, 0⟩ H H' := ⟨n1, f1, f2, p1, p2⟩
  have g1 : Good B (some (hd, c)) ⟨fun _ => none, 0⟩ H H' (L2.start N [V.ref a]) (Sl.fr (.rol ns) :: List.replicate (N.length - 1) Sl.no) ⟨mixF ns k, ns, 0⟩ := by
    refine ⟨ex, sth, fun j t e => ?_, fun x o z => (nomatch z), fun _ _ _ _ _ _ => rfl, fun j m t u x e e' ho _ _ _ => ?_, by rw [hl]; simp; omega, fun cc fs e => ?_⟩
    · cases j with
      | zero => cases e; exact ⟨_, e0, _, rfl, rep_rol.mpr ⟨a, rfl, hs⟩⟩
      | succ j =>
        have e1 : (List.replicate (N.length - 1) Sl.no)[j]? = some t := e
        rw [List.getElem?_replicate] at e1
        split at e1
        · cases e1
          rename_i hj
          exact ⟨_, List.getElem?_eq_getElem (by rw [hl]; omega), trivial⟩
        · cases e1
    · exfalso
      cases j with
      | zero => cases e; cases ho
      | succ j =>
        have e1 : (List.replicate (N.length - 1) Sl.no)[j]? = some t := e
        rw [List.getElem?_replicate] at e1
        split at e1
        · cases e1; cases ho
        · cases e1
    · cases e
  have g2 := g1.set (i := i) (d := .hnd) (v := .ref hd) (rep_hnd.mpr ⟨hd, c, rfl, rfl⟩)
  have z := p.ok Wx { nx := fun _ H' => Q .non H', rt := Q } g2
  rw [ev] at z
  refine z fun v F2 H2 e2 g3 r => ?_
  cases rep_bl.mp r
  exact q H2
end Dv

set_option Elab.async false
set_option linter.all false
set_option maxRecDepth 100000
/-! # The rules that the packages' readings ask for -/
namespace Dv
open PySem PySem.Spec PyProof.Rows L2 Evl

section
variable {B : Bs} {X : Cx}
theorem op_leU : OpR X (compareOp .LtE) (o_le B).r := OpR.or op_le op_le_str
theorem op_ltU : OpR X (compareOp .Lt) (o_lt B).r := OpR.or op_lt op_lt_str
theorem op_addU (hK : B.K = X.K) : OpR X (binaryOp .Add) (o_add B).r := by
  have h1 : OpR X (binaryOp .Add) (o_catT B).r := by
    show OpR X _ (rCatA B.K)
    rw [hK]
    exact op_catA
  exact OpR.or op_add (OpR.or op_add_str (OpR.or op_cat h1))
theorem pi_of {tg e : Expr} {te : TE} (hK : B.K = X.K) (he : PE X e te) : PI X tg e (fun σ H R => iList B.K te σ H R ∨ iTup B.K te σ H R ∨ iStr te σ H R) := by
  refine ⟨fun pins s σ H R I h => ?_⟩
  rw [hK] at h
  rcases h with h | h | h
  · exact (pi_list he).run pins s σ H R I h
  · exact (pi_tup he).run pins s σ H R I h
  · exact (pi_str he).run pins s σ H R I h
theorem call_allU (hK : B.K = X.K) (calm : X.calm = true) : CallR X (.builtin "all") (o_all B).r := by
  show CallR X _ (rAll B.K)
  rw [hK]
  exact cr_all calm
theorem call_anyU (hK : B.K = X.K) (calm : X.calm = true) : CallR X (.builtin "any") (o_any B).r := by
  show CallR X _ (rAny B.K)
  rw [hK]
  exact cr_any calm
theorem call_dicU (hK : B.K = X.K) (calm : X.calm = true) : CallR X (.type "dict") (o_dicT B).r := by
  show CallR X _ (rDicT B.K)
  rw [hK]
  exact call_dicT calm
theorem tkW0 : Takes X W0 := fun u s' ⟨a, Bb, sI, pins, σ, H, cls, d, e, I, nb, up, sky, na, os, ag, w⟩ => w.elim
/-- never reached -/
def XS.nv (B : Bs) : XS B where
  ts := fun _ => tNever
  ev := fun _ _ => .stuck
  ok := fun _ _ _ => trivial
end
end Dv
namespace Dv
open PySem PySem.Spec PyProof.Rows L2 Evl
/-- no test -/
def XT.yes (B : Bs) : XT B where
  tt := fun _ => tYes
  ev := fun _ s => .ret (.bl true) s
  ok := fun {w F H σ Γ s} Wx e st sl => OkT.pure e st
end Dv
namespace Dv
open PySem PySem.Spec PyProof.Rows L2 Evl
theorem conv {X : Cx} {sts : List Stmt} {t t' : TS} (h : PSs X sts t) (e : t = t') : PSs X sts t' := e ▸ h
end Dv
namespace Dv
open PySem PySem.Spec PyProof.Rows L2 Evl
theorem no_hd {P : Str → Gf → Prop} : ∀ c g, Hd.at [] c = some g → P c g := fun c g h => by cases h
theorem call_len0 {B : Bs} {X : Cx} (hK : B.K = X.K) (hr : Room 1 X.A) : CallR X (.builtin "len") (lenR B []) := call_lenU (k := 0) hK hr no_hd
end Dv
namespace Dv
open PySem PySem.Spec PyProof.Rows L2 Evl
section
variable {B : Bs} {P : Program} {w : World} {mg : Str → Option Value} {base : Heap} {j k n : Nat} {m f c : Str} {g : Gf}
theorem hd_at {α : Type} {a : α} {c' : Str} {b : α} (h : (([(c, a)] : List (Str × α)).find? fun h => decide (h.1 = c')).map (·.2) = some b) : c' = c ∧ b = a := by
  rw [List.find?_cons] at h
  by_cases hc : c = c'
  · subst hc
    simp at h
    exact ⟨rfl, h.symm⟩
  · simp [hc] at h
/-- an own method, apart from the place where it is called -/
structure OwnP (B : Bs) (P : Program) (w : World) (mg : Str → Option Value) (base : Heap) (k : Nat) (m : Str) (n : Nat) (c : Str) (g : Gf) : Prop where
  ex : ∃ f fd ps, PySem.W.findIn B.K (.ref (B.ca c)) m = some (some (.ref f)) ∧ PySem.W.isFn B.K (.ref f) = true ∧ PySem.W.fnIn B.K f = true ∧ PySem.W.keepIn B.K (.ref f) = true ∧ Cls B.K (B.ca c) ∧ Binds B.K fd ps [] ∧ ps.length = n ∧ FnOk P w B.K mg base (L2.CX P w) k f fd ps (spD B n g)
theorem OwnP.mono (h : OwnP B P w mg base j m n c g) (hk : j ≤ k) : OwnP B P w mg base k m n c g :=
  let ⟨f, fd, ps, h1, h2, h3, h4, h5, h6, h7, h8⟩ := h.ex; ⟨f, fd, ps, h1, h2, h3, h4, h5, h6, h7, h8.mono hk⟩
theorem OwnP.at {X : Cx} (h : OwnP B X.prog X.w X.mg X.base k m n c g) (hK : B.K = X.K) : OwnM B X k m n c g := by
  obtain ⟨f, fd, ps, h1, h2, h3, h4, h5, h6, h7, h8⟩ := h.ex
  rw [hK] at h1 h2 h3 h4 h5 h6 h8
  exact ⟨f, fd, ps, h1, h2, h3, h4, h5, h6, h7, h8⟩
theorem hd_one {X : Cx} (hK : B.K = X.K) (h : OwnP B X.prog X.w X.mg X.base k m n c g) : ∀ c' g', Hd.at [(c, g)] c' = some g' → OwnM B X k m n c' g' := fun c' g' e => by
  obtain ⟨rfl, rfl⟩ := hd_at e
  exact h.at hK
theorem no_eq {X : Cx} {neg : Bool} : ∀ c g, Hd.at [] c = some g → OwnEq B X k neg c g := fun c g h => by cases h
theorem eq_one {X : Cx} {neg : Bool} (hK : B.K = X.K) (h : OwnP B X.prog X.w X.mg X.base k "__eq__" 2 c g)
    (e : PySem.W.findIn B.K (.ref (B.ca c)) "__ne__" = some (some (.builtin "object.__ne__")) ∧ PySem.W.mroIn B.K (B.ca c) (.type "object") = some true) : ∀ c' g', Hd.at [(c, g)] c' = some g' → OwnEq B X k neg c' g' := fun c' g' q => by
  obtain ⟨rfl, rfl⟩ := hd_at q
  rw [hK] at e
  exact ⟨h.at hK, fun _ => e⟩
/-- a property -/
structure AtP (B : Bs) (P : Program) (w : World) (mg : Str → Option Value) (base : Heap) (k : Nat) (f c : Str) (g : Gf) : Prop where
  cl : Cls B.K (B.ca c)
  ex : ∃ p fa fd ps, PropOf B.K (B.ca c) f p fa ∧ Binds B.K fd ps [] ∧ ps.length = 1 ∧ FnOk P w B.K mg base (L2.CX P w) k fa fd ps (spD B 1 g)
theorem AtP.mono (h : AtP B P w mg base j f c g) (hk : j ≤ k) : AtP B P w mg base k f c g :=
  ⟨h.cl, let ⟨p, fa, fd, ps, h1, h2, h3, h4⟩ := h.ex; ⟨p, fa, fd, ps, h1, h2, h3, h4.mono hk⟩⟩
theorem at_prop {X : Cx} (hK : B.K = X.K) (h : AtP B X.prog X.w X.mg X.base k f c g) : ∀ c' t, Ats.at [(c, .prop g)] c' = some t → AtOk B X k f c' t := fun c' t e => by
  obtain ⟨rfl, rfl⟩ := hd_at e
  obtain ⟨cl, p, fa, fd, ps, h1, h2, h3, h4⟩ := h
  rw [hK] at cl h1 h2 h4
  exact ⟨cl, p, fa, fd, ps, h1, h2, h3, h4⟩
theorem at_propN (h : ∀ ds s c' fs s', g ds s ≠ .exc c' fs s') : ∀ c' g', Ats.at [(c, .prop g)] c' = some (.prop g') → ∀ ds s c2 fs s', g' ds s ≠ .exc c2 fs s' := fun c' g' e => by
  obtain ⟨rfl, e2⟩ := hd_at e
  cases e2
  exact h
theorem at_fld {X : Cx} (hK : B.K = X.K) (h : Cls B.K (B.ca c) ∧ NoAttr B.K (B.ca c) f) : ∀ c' t, Ats.at [(c, .fld)] c' = some t → AtOk B X k f c' t := fun c' t e => by
  obtain ⟨rfl, rfl⟩ := hd_at e
  rw [hK] at h
  exact h
theorem at_fldN : ∀ c' g', Ats.at [(c, .fld)] c' = some (.prop g') → ∀ ds s c2 fs s', g' ds s ≠ .exc c2 fs s' := fun c' g' e => by
  obtain ⟨rfl, e2⟩ := hd_at e
  cases e2
theorem call_lenD_ {X : Cx} (hK : B.K = X.K) : CallR X (.builtin "len") (o_len B).r := by
  have h : CallR X (.builtin "len") (fun xs H Q => ∃ x n, xs = [x] ∧ LenV X.K x H n ∧ Q (.int n) H) := call_len
  rw [← hK] at h
  exact h
instance (i j : Int) : Decidable (CPow i j) := by unfold CPow; infer_instance
abbrev o_powI (B : Bs) : O2 B := .intC B CPow fun i j => i ^ j.toNat
end
end Dv
namespace Dv
open PySem PySem.Spec PyProof.Rows L2 Evl
/-- an error's __init__ that stores its one argument -/
theorem oex1_body {K : PySem.W.Frag} {C : Addr} {f : Str} {N : List Str} (hN : N.length = 2) (T : OexC K C) (hf : PySem.W.findIn K (.ref C) f = some none) {vs : List V} {H : Hp} {Q : VK} {E : XK} (h : spX C [f] vs H Q E) :
    (tOst K f (tVar 0) (tVar 1)) { nx := fun _ H' => Q .non H', rt := Q } (L2.start N vs) H := by
  obtain ⟨a, ws, rfl, hl, ha, q⟩ := h
  match ws, hl with
  | [y], _ =>
    have e0 : (L2.start N [.ref a, y])[0]? = some (some (.ref a)) := rfl
    have e1 : (L2.start N [.ref a, y])[1]? = some (some y) := rfl
    exact ⟨y, e1, .ref a, e0, a, C, rfl, T, hf, .inl ⟨ha, fun d hd hne => q d hd hne⟩⟩
end Dv
namespace Dv
open PySem PySem.Spec PyProof.Rows L2 Evl
theorem passF {X : Cx} : Passes (L2.CX X.prog X.w) X (fun _ _ _ => False) := by
  intro _ _ _ _ _ _ _ h
  exact (CXnever h).elim
end Dv
namespace Dv
open PySem PySem.Spec PyProof.Rows L2 Evl
/-- x, y = a, b -/
def XS.par {B : Bs} (i j : Nat) (p q : XE B) : XS B where
  ts := fun Wx => tPar i j (tas Wx [p, q])
  ev := fun Γ s => (p.ev Γ s).out Γ fun d s1 => (q.ev Γ s1).out Γ fun e s2 => .nxt ((Γ.set i (.fr d)).set j (.fr e)) s2
  ok := fun {w Z F H σ Γ s} Wx D' g => by
    refine (p.ok Wx g.fh g.st g.sl).stm g (u := fun v H1 => q.te Wx σ H1 fun u H2 => ∃ v1 u1, [v, u] = [v1, u1] ∧ D'.nx ((σ.set i (some v1)).set j (some u1)) H2) fun d s1 v F1 H1 _ a g1 r => ?_
    refine (q.ok Wx g1.fh g1.st g1.sl).stm g1 (u := fun u H2 => ∃ v1 u1, [v, u] = [v1, u1] ∧ D'.nx ((σ.set i (some v1)).set j (some u1)) H2) fun e s2 u F2 H2 _ a2 g2 r2 => ?_
    exact fun k => ⟨v, u, rfl, k F2 H2 _ (Ex.refl F2) ((g2.set (r.mono a2.ff)).set r2)⟩
/-- a + b of two lists, that is changed later -/
def XN.cat {B : Bs} (p q : XE B) : XN B where
  te := fun Wx => tOp (o_add B).r (p.te Wx) (q.te Wx)
  ev := fun Γ s => (p.ev Γ s).bind fun d s1 => (q.ev Γ s1).bind fun e s2 => match d with
    | .lst xs => match e with
      | .lst ys => if xs.length + ys.length ≤ 100000 then .ret (.lst (xs ++ ys)) s2 else .stuck
      | _ => .stuck
    | _ => .stuck
  ok := fun {w F H σ Γ s} Wx e st sl => by
    refine OkP.seq (p.ok Wx e st sl) (u := fun x H1 Q => q.te Wx σ H1 fun y H2 => (o_add B).r x y H2 Q) fun d s1 v F1 H1 _ a1 st1 r1 => ?_
    refine OkP.seq (q.ok Wx a1.fh st1 (sl.step a1)) (u := fun y H2 Q => (o_add B).r v y H2 Q) fun d2 s2 v2 F2 H2 _ a2 st2 r2 => ?_
    cases d with
    | lst xs =>
      cases d2 with
      | lst ys =>
        show OkP B w F2 H2 σ Wx _ _ (if xs.length + ys.length ≤ 100000 then .ret (.lst (xs ++ ys)) s2 else .stuck)
        by_cases hc : xs.length + ys.length ≤ 100000
        · rw [if_pos hc]
          obtain ⟨p1, vs, rfl, h1, h2⟩ := rep_lst.mp (r1.mono a2.ff)
          obtain ⟨p2, us, rfl, h3, h4⟩ := rep_lst.mp r2
          exact OkP.imp (NewL.mk e (a1.trans a2) st2 (h2.append h4)) fun Q k => .inr (.inr (.inl ⟨p1, p2, vs, us, rfl, rfl, a2.fh _ _ h1, a2.fh _ _ h3, sz_of (by rw [h2.length, h4.length]; exact hc), k⟩))
        · rw [if_neg hc]; trivial
      | _ => trivial
    | _ => trivial
end Dv
namespace Dv
open PySem PySem.Spec PyProof.Rows L2 Evl
theorem fn_none {B : Bs} {P : Program} {w : World} {K : PySem.W.Frag} {mg : Str → Option Value} {base : Heap} {CX : CXT} {k n : Nat} {f : Addr} {fd : FuncData} {ps : List Str} : FnOk P w K mg base CX k f fd ps (spD B n fun _ _ => .stuck) :=
  ⟨fun vs H Q E h => by obtain ⟨_, _, _, _, _, _, _, _, z⟩ := h; exact z.elim, fun A outer s H args us vs Q E hr he hb hv hs => by obtain ⟨_, _, _, _, _, _, _, _, z⟩ := hs; exact z.elim⟩
end Dv
namespace Dv
open PySem PySem.Spec PyProof.Rows L2 Evl
/-- never raises -/
def NoX {B : Bs} (p : XE B) : Prop := ∀ Γ s c fs s', p.ev Γ s ≠ .exc c fs s'
theorem noX_var {B : Bs} {i : Nat} : NoX (XE.var B i) := fun Γ s c fs s' h => by
  have h' : Sl.get Γ[i]? s = .exc c fs s' := h
  unfold Sl.get at h'
  split at h'
  · cases h'
  · cases h'
theorem opt_no {o : Option D} {s : HS} {c : Str} {fs : List (Str × D)} {s' : HS} : Res.opt o s ≠ .exc c fs s' := fun h => by
  cases o with
  | none => cases h
  | some d => cases h
theorem noX_at {B : Bs} {c0 f : Str} {p : XE B} (hp : NoX p) : NoX (XE.at [(c0, .fld)] f p) := fun Γ s c fs s' h => by
  have h' : ((p.ev Γ s).bind fun d s1 => atE [(c0, .fld)] f d s1) = .exc c fs s' := h
  cases hr : p.ev Γ s with
  | exc c1 f1 s1 => exact hp _ _ _ _ _ hr
  | stuck => rw [hr] at h'; cases h'
  | ret d s1 =>
    rw [hr] at h'
    have h2 : atE [(c0, .fld)] f d s1 = .exc c fs s' := h'
    unfold atE at h2
    split at h2
    · split at h2
      · exact opt_no h2
      · rename_i hq
        obtain ⟨_, hq⟩ := hd_at hq
        cases hq
      · cases h2
    · cases h2
theorem noX_blt {B : Bs} {o : OC B} {p : XE B} (hp : NoX p) : NoX (XE.blt o [p]) := fun Γ s c fs s' h => by
  have h' : ((p.ev Γ s).bind fun d s1 => Res.opt (o.f [d]) s1) = .exc c fs s' := h
  cases hr : p.ev Γ s with
  | exc c1 f1 s1 => exact hp _ _ _ _ _ hr
  | stuck => rw [hr] at h'; cases h'
  | ret d s1 => rw [hr] at h'; exact opt_no h'
theorem noX_ret {B : Bs} {p : XE B} {m : Nat} (hp : NoX p) : ∀ ds s c fs s', (XS.ret p).fn m ds s ≠ .exc c fs s' := fun ds s c fs s' h => by
  have h' : ((p.ev (ds.map Sl.fr ++ List.replicate (m - ds.length) Sl.no) s).out (ds.map Sl.fr ++ List.replicate (m - ds.length) Sl.no) fun d s1 => .ret d s1).res = .exc c fs s' := h
  cases hr : p.ev (ds.map Sl.fr ++ List.replicate (m - ds.length) Sl.no) s with
  | exc c1 f1 s1 => exact hp _ _ _ _ _ hr
  | stuck => rw [hr] at h'; cases h'
  | ret d s1 => rw [hr] at h'; cases h'
end Dv

set_option Elab.async false
set_option linter.all false
set_option maxRecDepth 100000
/-! # Dicts that are new: a frame's own, or locked for good -/
namespace Dv
open PySem PySem.Spec PyProof.Rows L2 Evl

/-- a new dict is locked -/
def tLk (t : TE) : TE := fun σ H Q => t σ H fun v H1 => ∃ p kvs, v = .ref p ∧ H1 p = some (.dK kvs) ∧ ∀ od, Q v (upd H1 p (.frz od (.dK kvs)))
theorem pe_lk {X : Cx} {e : Expr} {t : TE} (h : PE X e t) : PE X e (tLk t) := ⟨fun pins s σ H Q I q => thn (h.run pins s σ H _ I q) fun u s1 ⟨x, H1, I1, r1, p, kvs, e, hp, q1⟩ => by
  obtain ⟨od, I2⟩ := I1.lock hp True.intro
  exact ⟨x, _, I2, r1, q1 od⟩⟩
theorem Step.lk {w : Wd} {F H F' H' : Hp} {p : Addr} {o : HO} (a : Step w F H F' H') (hn : H p = none) (h1 : F' p = none) : Step w F H (upd F' p o) (upd H' p o) := by
  refine ⟨a.ff.trans (Ex.new h1), fun x u e => ?_, fun x u hx hf ho => ?_⟩
  · by_cases xp : x = p
    · subst xp; rw [upd_same] at e ⊢; exact e
    · rw [upd_ne xp] at e ⊢; exact a.fh x u e
  · have xp : x ≠ p := ne_of_none hx hn
    rw [upd_ne xp, upd_ne xp]
    exact a.rest x u hx hf ho
/-- a dict, new since H, that is not frozen -/
def NewD (B : Bs) (w : Wd) (H : Hp) (d : D) (v : V) (F' H' : Hp) : Prop := ∃ kvs p xs, d = .dic true kvs ∧ v = .ref p ∧ H p = none ∧ F' p = none ∧ Off w p ∧ H' p = some (.dK xs) ∧ RepK B w F' kvs xs
structure XD (B : Bs) where
  te : WX → TE
  ev : Gm → HS → Res
  ok : ∀ {w : Wd} {F H : Hp} {σ : L2.St} {Γ : Gm} {s : HS} (Wx : WX), Ex F H → StAt w s F H → SlsAt B w F H Γ σ → OkP B w F H σ Wx (NewD B w H) (te Wx σ H) (ev Γ s)
def XE.ofD {B : Bs} (q : XD B) : XE B where
  te := fun Wx => tLk (q.te Wx)
  ev := q.ev
  ok := fun {w F H σ Γ s} Wx e st sl => by
    have h := q.ok Wx e st sl
    cases hr : q.ev Γ s with
    | stuck => trivial
    | exc c fs s' => rw [hr] at h; exact fun hx Q => h hx _
    | ret d s' =>
      rw [hr] at h
      exact fun Q k => h _ fun v F' H' a b ⟨kvs, p, xs, e1, e2, h1, h2, h3, h4, r⟩ => by
        subst e1 e2
        exact ⟨p, xs, rfl, h4, fun od => k (.ref p) (upd F' p (.frz od (.dK xs))) (upd H' p (.frz od (.dK xs))) (a.lk h1 h2) ((b.mut h3).frz h3) (rep_dicL upd_same (r.mono (Ex.new h2)))⟩
theorem NewD.mk {B : Bs} {w : Wd} {F0 H0 F H : Hp} {s : HS} {σ : L2.St} {Wx : WX} {xs : List (Key × V)} {kvs : List (Key × D)} (e0 : Ex F0 H0) (a : Step w F0 H0 F H) (st : StAt w s F H) (r : RepK B w F kvs xs) :
    OkP B w F H σ Wx (NewD B w H0) (fun Q => ∀ p, H p = none → Q (.ref p) (upd H p (.dK xs))) (.ret (.dic true kvs) s) := fun Q q p hp =>
  q (.ref p) F (upd H p (.dK xs)) (Step.newO a.fh hp) (st.newO hp) ⟨kvs, p, xs, rfl, rfl, a.fresh e0 st hp, fresh_back a.fh hp, Off.fresh st hp, upd_same, r⟩
/-- x = a new dict, that is changed later -/
def setDE (Γ : Gm) (i : Nat) (d : D) (s : HS) : Out := match d with
  | .dic true kvs => .nxt (Γ.set i (.dco kvs)) s
  | _ => .stuck
def XS.setD {B : Bs} (i : Nat) (q : XD B) : XS B where
  ts := fun Wx => tAsg (q.te Wx) (gName i)
  ev := fun Γ s => (q.ev Γ s).out Γ fun d s1 => setDE Γ i d s1
  ok := fun {w Z F H σ Γ s} Wx D' g => by
    have h := q.ok Wx g.fh g.st g.sl
    cases hr : q.ev Γ s with
    | stuck => trivial
    | exc c fs s' =>
      rw [hr] at h
      exact fun hx => h (fun od F' H' a b c => hx od F' H' σ a.ff (g.step a b) c) _
    | ret d s1 =>
      rw [hr] at h
      show OkS B w Z F Wx D' _ (setDE Γ i d s1)
      unfold setDE
      split
      · refine fun k => h _ fun v F' H' a b ⟨kvs', p, xs, e1, e2, h1, h2, h3, h4, r⟩ => ?_
        cases e1
        subst e2
        refine k F' H' _ a.ff ?_
        have g1 := g.step a b
        refine g1.setO (fun _ _ z => nomatch z) ⟨p, xs, rfl, h2, h3, h4, r⟩ ?_ fun j u e ho hp => g.old h1 j u e ho hp
        cases hz : Z p with
        | none => rfl
        | some o => rw [(g.zz p o hz).2.1] at h1; cases h1
      · trivial

/-! ### a frame's own dict is locked for good -/
def tLkS (i : Nat) (t : TS) : TS := fun D σ H => ∃ p kvs, σ[i]? = some (some (.ref p)) ∧ H p = some (.dK kvs) ∧ ∀ od, t D σ (upd H p (.frz od (.dK kvs)))
theorem ps_lk {X : Cx} {st : Stmt} {t : TS} (i : Nat) (h : PS X st t) : PS X st (tLkS i t) := ⟨fun pins s σ H D I hw => by
  obtain ⟨p, kvs, _, hp, hw⟩ := hw
  obtain ⟨od, I1⟩ := I.lock hp True.intro
  exact h.run pins s σ _ D I1 (hw od)⟩
theorem Good.lk {B : Bs} {w : Wd} {Z : Zs} {F H : Hp} {σ : L2.St} {Γ : Gm} {s : HS} {i : Nat} {kvs : List (Key × D)} {p : Addr} {xs : List (Key × V)} {od : Obj} (g : Good B w Z F H σ Γ s) (hi : Γ[i]? = some (.dco kvs)) (h1 : σ[i]? = some (some (.ref p))) (hF : F p = none) (hO : Off w p) (hH : H p = some (.dK xs)) (hr : RepK B w F kvs xs) :
    Ex F (L2.upd F p (.frz od (.dK xs))) ∧ Good B w Z (L2.upd F p (.frz od (.dK xs))) (L2.upd H p (.frz od (.dK xs))) σ (Γ.set i (.fr (.dic true kvs))) s := by
  have hZ := g.zo i _ p hi rfl h1
  have ex : Ex F (L2.upd F p (.frz od (.dK xs))) := Ex.new hF
  refine ⟨ex, ⟨fun a u e => ?_, (g.st.mut hO).frz hO, fun j u e => ?_, fun a u hz => ?_, fun j u q e hu hq => ?_, fun j k u v q e e' hu hv hq hq' => ?_, by rw [List.length_set, g.ln], fun c fs e => ?_⟩⟩
  · by_cases ap : a = p
    · subst ap; rw [upd_same] at e ⊢; exact e
    · rw [upd_ne ap] at e ⊢; exact g.fh a u e
  · rw [List.getElem?_set] at e
    by_cases hij : i = j
    · subst hij
      rw [if_pos rfl] at e
      split at e
      · cases e
        exact ⟨_, h1, _, rfl, rep_dicL upd_same (hr.mono ex)⟩
      · cases e
    · rw [if_neg hij] at e
      obtain ⟨y, k1, k2⟩ := g.sl j u e
      refine ⟨y, k1, ?_⟩
      cases u with
      | no => trivial
      | fr d => obtain ⟨v, e1, r⟩ := k2; exact ⟨v, e1, r.mono ex⟩
      | lo ds =>
        obtain ⟨q, xs, e1, e2, e3, e4, e5⟩ := k2
        subst e1
        have hne : q ≠ p := fun z => by subst z; exact hij (g.ow i j _ _ q hi e rfl rfl h1 k1)
        exact ⟨q, xs, rfl, by rw [upd_ne hne]; exact e2, e3, by rw [upd_ne hne]; exact e4, e5.mono ex⟩
      | dco ds =>
        obtain ⟨q, xs, e1, e2, e3, e4, e5⟩ := k2
        subst e1
        have hne : q ≠ p := fun z => by subst z; exact hij (g.ow i j _ _ q hi e rfl rfl h1 k1)
        exact ⟨q, xs, rfl, by rw [upd_ne hne]; exact e2, e3, by rw [upd_ne hne]; exact e4, e5.mono ex⟩
      | io c fs =>
        obtain ⟨q, dx, xs, e1, e2, e3, e4, e5⟩ := k2
        subst e1
        have hne : q ≠ p := fun z => by subst z; exact hij (g.ow i j _ _ q hi e rfl rfl h1 k1)
        exact ⟨q, dx, xs, rfl, by rw [upd_ne hne]; exact e2, e3, by rw [upd_ne hne]; exact e4, e5.mono ex⟩
  · obtain ⟨k1, k2, k3⟩ := g.zz a u hz
    have hne : a ≠ p := fun z => by subst z; rw [hZ] at hz; cases hz
    exact ⟨by rw [upd_ne hne]; exact k1, by rw [upd_ne hne]; exact k2, k3⟩
  · by_cases hij : i = j
    · subst hij
      rw [List.getElem?_set, if_pos rfl] at e
      split at e
      · cases e; cases hu
      · cases e
    · rw [List.getElem?_set_ne hij] at e
      exact g.zo j u q e hu hq
  · have fix : ∀ {m : Nat} {x : Sl}, (Γ.set i (.fr (.dic true kvs)))[m]? = some x → owned x = true → Γ[m]? = some x := fun {m x} e hx => by
      by_cases him : i = m
      · subst him
        rw [List.getElem?_set, if_pos rfl] at e
        split at e
        · cases e; cases hx
        · cases e
      · rw [List.getElem?_set_ne him] at e; exact e
    exact g.ow j k u v q (fix e hu) (fix e' hv) hu hv hq hq'
  · by_cases hz : i = 0
    · subst hz
      rw [List.getElem?_set, if_pos rfl] at e
      split at e
      · cases e
      · cases e
    · rw [List.getElem?_set_ne hz] at e
      exact g.me c fs e
/-- from here on the dict of slot i is no more changed -/
def XS.frzD {B : Bs} (i : Nat) (p : XS B) : XS B where
  ts := fun Wx => tLkS i (p.ts Wx)
  ev := fun Γ s => match (Γ[i]? : Option Sl) with
    | some (.dco kvs) => p.ev (Γ.set i (.fr (.dic true kvs))) s
    | _ => .stuck
  ok := fun {w Z F H σ Γ s} Wx D' g => by
    cases hi : (Γ[i]? : Option Sl) with
    | none => trivial
    | some t =>
      cases t with
      | dco kvs =>
        obtain ⟨x, h1, q, xs, e1, e2, e3, e4, e5⟩ := g.sl i _ hi
        subst e1
        show OkS B w Z F Wx D' _ (p.ev (Γ.set i (.fr (.dic true kvs))) s)
        have key : ∀ od, OkS B w Z F Wx D' (p.ts Wx D' σ (upd H q (.frz od (.dK xs)))) (p.ev (Γ.set i (.fr (.dic true kvs))) s) := fun od => by
          obtain ⟨ex, g'⟩ := g.lk (od := od) hi h1 e2 e3 e4 e5
          exact (p.ok Wx D' g').back ex
        cases ho : p.ev (Γ.set i (.fr (.dic true kvs))) s with
        | stuck => trivial
        | nxt _ _ => exact fun k => ⟨q, xs, h1, e4, fun od => by have z := key od; rw [ho] at z; exact z k⟩
        | brk _ _ => exact fun k => ⟨q, xs, h1, e4, fun od => by have z := key od; rw [ho] at z; exact z k⟩
        | cnt _ _ => exact fun k => ⟨q, xs, h1, e4, fun od => by have z := key od; rw [ho] at z; exact z k⟩
        | ret _ _ => exact fun k => ⟨q, xs, h1, e4, fun od => by have z := key od; rw [ho] at z; exact z k⟩
        | exc _ _ _ _ => exact fun k => ⟨q, xs, h1, e4, fun od => by have z := key od; rw [ho] at z; exact z k⟩
      | _ => trivial

/-! ### {}, dict(x) -/
def XD.nil (B : Bs) : XD B where
  te := fun _ => tDNewK
  ev := fun _ s => .ret (.dic true []) s
  ok := fun {w F H σ Γ s} Wx e st sl => NewD.mk e (Step.refl e) st (repK_nil.mpr rfl)
structure ODc (B : Bs) where
  r : List V → Hp → VK → Prop
  f : List D → Option (List (Key × D))
  ok : ∀ {w : Wd} {F H : Hp} {xs : List V} {ds : List D} {kvs : List (Key × D)}, f ds = some kvs → Ex F H → Reps B w F ds xs → ∃ ys, RepK B w F kvs ys ∧ ∀ Q : VK, (∀ p, H p = none → Q (.ref p) (upd H p (.dK ys))) → r xs H Q
def XD.blt {B : Bs} (o : ODc B) (ps : List (XE B)) : XD B where
  te := fun Wx => tCB o.r (tas Wx ps)
  ev := fun Γ s => evs Γ ps s fun ds s1 => match o.f ds with
    | some kvs => .ret (.dic true kvs) s1
    | none => .stuck
  ok := fun {w F H σ Γ s} Wx e st sl => evs_okP Wx ps (u := fun vs H1 Q => o.r vs H1 Q) e st sl fun ds s1 vs F1 H1 a st1 r _ => by
    cases hf : o.f ds with
    | none => trivial
    | some kvs =>
      obtain ⟨ys, h1, h2⟩ := o.ok hf a.fh r
      exact OkP.imp (NewD.mk e a st1 h1) h2
def dicA : List D → Option (List (Key × D))
  | [.tup true ds] => (prsD ds).map (mergeD [])
  | [.lst ds] => (prsD ds).map (mergeD [])
  | [.dic _ kvs] => some kvs
  | _ => none
def rDicP (K : PySem.W.Frag) : List V → Hp → VK → Prop := fun xs H Q => ∃ (a : Addr) (ps : List Addr) (kvs : List (Key × V)), xs = [.ref a] ∧ SqL K H a (ps.map V.ref) ∧ Paired (fun p kv => SqT K H p [kV kv.1, kv.2]) ps kvs ∧
    ∀ p, H p = none → Q (.ref p) (upd H p (.dK (mergeK [] kvs)))
def rDicD : List V → Hp → VK → Prop := fun xs H Q => ∃ (a : Addr) (kvs : List (Key × V)), xs = [.ref a] ∧ Rd H a (.dK kvs) ∧ ∀ p, H p = none → Q (.ref p) (upd H p (.dK kvs))
def od_dict (B : Bs) : ODc B where
  r := fun xs H Q => rDicT B.K xs H Q ∨ rDicP B.K xs H Q ∨ rDicD xs H Q
  f := dicA
  ok := fun {w F H xs ds kvs} hf ex r => by
    unfold dicA at hf
    split at hf
    · rename_i es
      obtain ⟨v, us, rfl, h1, h2⟩ := reps_cons.mp r
      cases reps_nil.mp h2
      cases hp : prsD es with
      | none => rw [hp] at hf; cases hf
      | some l =>
        rw [hp] at hf
        cases hf
        obtain ⟨p, us, rfl, h3, h4, ob, h5, h6⟩ := rep_tupP h1
        obtain ⟨ps, ys, rfl, h7, h8⟩ := prsD_rep hp h4
        exact ⟨_, repK_merge h8 (repK_nil.mpr rfl), fun Q q => .inl ⟨p, ob, ps, ys, rfl, ex _ _ h5, h6, L2.Paired.mapP h7 fun _ _ z => ex_t ex z, q⟩⟩
    · rename_i es
      obtain ⟨v, us, rfl, h1, h2⟩ := reps_cons.mp r
      cases reps_nil.mp h2
      cases hp : prsD es with
      | none => rw [hp] at hf; cases hf
      | some l =>
        rw [hp] at hf
        cases hf
        obtain ⟨p, us, rfl, h3, h4⟩ := rep_lst.mp h1
        obtain ⟨ps, ys, rfl, h7, h8⟩ := prsD_rep hp h4
        exact ⟨_, repK_merge h8 (repK_nil.mpr rfl), fun Q q => .inr (.inl ⟨p, ps, ys, rfl, sq_of (ex _ _ h3), L2.Paired.mapP h7 fun _ _ z => ex_t ex z, q⟩)⟩
    · rename_i pl es
      cases hf
      obtain ⟨v, us, rfl, h1, h2⟩ := reps_cons.mp r
      cases reps_nil.mp h2
      obtain ⟨p, us, rfl, h3, h4⟩ := rep_dicE h1
      exact ⟨us, h4, fun Q q => .inr (.inr ⟨p, us, rfl, ex_rd ex h3, q⟩)⟩
    · cases hf
theorem call_dictV {B : Bs} {X : Cx} (hK : B.K = X.K) (calm : X.calm = true) : CallR X (.type "dict") (od_dict B).r := by
  have h1 : CallR X (.type "dict") (rDicT B.K) := by rw [hK]; exact call_dicT calm
  have h2 : CallR X (.type "dict") (rDicP B.K) := by
    unfold rDicP
    rw [hK]
    exact call_dictP calm
  exact L2.CallR.or h1 (L2.CallR.or h2 call_dictD)

/-! ### d[k] = e -/
theorem repK_len {B : Bs} {w : Wd} {F : Hp} : ∀ {kvs : List (Key × D)} {xs : List (Key × V)}, RepK B w F kvs xs → xs.length = kvs.length
  | [], _, r => by rw [repK_nil.mp r] <;> rfl
  | (k, d) :: kvs, _, r => by
    obtain ⟨v, xs, rfl, _, h⟩ := repK_cons.mp r
    rw [List.length_cons, List.length_cons, repK_len h]
def putE (Γ : Gm) (i : Nat) (kvs : List (Key × D)) (d e : D) (s : HS) : Out := match kyD e with
  | some k => if kvs.length < 100000 then .nxt (Γ.set i (.dco (putKD kvs k d))) s else .stuck
  | none => .stuck
def XS.dput {B : Bs} (i : Nat) (k p : XE B) : XS B where
  ts := fun Wx => sDPut (tVar i) (k.te Wx) (p.te Wx)
  ev := fun Γ s => match (Γ[i]? : Option Sl) with
    | some (.dco kvs) => (p.ev Γ s).out Γ fun d s1 => (k.ev Γ s1).out Γ fun e s2 => putE Γ i kvs d e s2
    | _ => .stuck
  ok := fun {w Z F H σ Γ s} Wx D' g => by
    cases hi : (Γ[i]? : Option Sl) with
    | none => trivial
    | some t =>
      cases t with
      | dco kvs =>
        obtain ⟨x, h1, q, xs, e1, e2, e3, e4, e5⟩ := g.sl i _ hi
        subst e1
        show OkS B w Z F Wx D' _ ((p.ev Γ s).out Γ fun d s1 => (k.ev Γ s1).out Γ fun e s2 => putE Γ i kvs d e s2)
        refine OkE.stm (D' := D') (u := fun v H1 => tVar i σ H1 fun x H2 => k.te Wx σ H2 fun y H3 => ∃ a H4, x = .ref a ∧ DPut H3 a y v H4 ∧ D'.nx σ H4) g (p.ok Wx g.fh g.st g.sl) fun d s1 v F1 H1 _ a g1 r => ?_
        refine OkS.imp (t := k.te Wx σ H1 fun y H3 => ∃ a H4, V.ref q = .ref a ∧ DPut H3 a y v H4 ∧ D'.nx σ H4) ?_ fun z => ⟨.ref q, h1, z⟩
        refine OkE.stm (D' := D') (u := fun y H3 => ∃ a H4, V.ref q = .ref a ∧ DPut H3 a y v H4 ∧ D'.nx σ H4) g1 (k.ok Wx g1.fh g1.st g1.sl) fun e s2 y F2 H2 _ a2 g2 r2 => ?_
        show OkS B w Z F2 Wx D' _ (putE Γ i kvs d e s2)
        unfold putE
        cases hk : kyD e with
        | none => trivial
        | some ky =>
          show OkS B w Z F2 Wx D' _ (if kvs.length < 100000 then .nxt (Γ.set i (.dco (putKD kvs ky d))) s2 else .stuck)
          by_cases hl : kvs.length < 100000
          · rw [if_pos hl]
            cases kyD_rep hk r2
            have st2 := a.trans a2
            obtain ⟨k1, k2⟩ := st2.rest q _ e4 e2 e3
            have rk := repK_put (k := ky) (r.mono a2.ff) (e5.mono st2.ff)
            exact fun kk => ⟨q, _, rfl, DPut.k (k := ky) k2 (sz_lt (by rw [repK_len e5]; exact hl)), kk F2 _ σ (Ex.refl F2) (g2.upd (fun _ _ z => nomatch z) hi rfl h1 k1 e3 ⟨q, _, rfl, k1, e3, upd_same, rk⟩)⟩
          · rw [if_neg hl]; trivial
      | _ => trivial
end Dv

set_option Elab.async false
set_option linter.all false
set_option maxRecDepth 100000
/-! # Dicts walked, dict comprehensions -/
namespace Dv
open PySem PySem.Spec PyProof.Rows L2 Evl

theorem repK_get {B : Bs} {w : Wd} {F : Hp} : ∀ {kvs : List (Key × D)} {xs : List (Key × V)} {i : Nat} {k : Key} {d : D}, RepK B w F kvs xs → kvs[i]? = some (k, d) → ∃ v, xs[i]? = some (k, v) ∧ Rep B w F d v
  | [], _, _, _, _, _, h => by simp at h
  | (k1, d1) :: kvs, _, 0, k, d, r, h => by
    obtain ⟨v, xs, rfl, h1, h2⟩ := repK_cons.mp r
    cases (show some (k1, d1) = some (k, d) from h)
    exact ⟨v, rfl, h1⟩
  | (k1, d1) :: kvs, _, i + 1, k, d, r, h => by
    obtain ⟨v, xs, rfl, h1, h2⟩ := repK_cons.mp r
    obtain ⟨u, h3, h4⟩ := repK_get (i := i) h2 (by simpa using h)
    exact ⟨u, by simpa using h3, h4⟩
def keysD (kvs : List (Key × D)) : List D := kvs.map fun kv => dKy kv.1
def valsD (kvs : List (Key × D)) : List D := kvs.map fun kv => kv.2
def itemsD (kvs : List (Key × D)) : List D := kvs.map fun kv => .tup false [dKy kv.1, kv.2]
section
variable {B : Bs} {w : Wd} {F1 : Hp} {d : Addr} {o : Obj} {xs : List (Key × V)} {kvs : List (Key × D)}
theorem yl_keys (hx : F1 d = some (.frz o (.dK xs))) (r : RepK B w F1 kvs xs) : Yl B w F1 (Itk d o xs) (keysD kvs) := fun F H e1 e2 => by
  have hq := e2 _ _ (e1 _ _ hx)
  have hl := repK_len r
  refine ⟨fun i e he => ?_, hq, by unfold keysD; rw [List.length_map, hl]; exact Nat.le_refl _⟩
  unfold keysD at he
  rw [List.getElem?_map] at he
  cases hk : kvs[i]? with
  | none => rw [hk] at he; cases he
  | some kv =>
    rw [hk] at he
    cases he
    obtain ⟨k, dd⟩ := kv
    obtain ⟨v, h1, h2⟩ := repK_get r hk
    refine ⟨⟨hq, (List.getElem?_eq_some_iff.mp h1).1⟩, fun x H' y => ?_⟩
    obtain ⟨rfl, k', v', h3, rfl⟩ := y
    rw [h1] at h3
    cases h3
    exact ⟨F, Step.refl e2, fun _ z => z, rep_dKy k⟩
theorem yl_vals (hx : F1 d = some (.frz o (.dK xs))) (r : RepK B w F1 kvs xs) : Yl B w F1 (Itd d o xs) (valsD kvs) := fun F H e1 e2 => by
  have hq := e2 _ _ (e1 _ _ hx)
  have hl := repK_len r
  refine ⟨fun i e he => ?_, hq, by unfold valsD; rw [List.length_map, hl]; exact Nat.le_refl _⟩
  unfold valsD at he
  rw [List.getElem?_map] at he
  cases hk : kvs[i]? with
  | none => rw [hk] at he; cases he
  | some kv =>
    rw [hk] at he
    cases he
    obtain ⟨k, dd⟩ := kv
    obtain ⟨v, h1, h2⟩ := repK_get r hk
    refine ⟨⟨hq, (List.getElem?_eq_some_iff.mp h1).1⟩, fun x H' y => ?_⟩
    obtain ⟨rfl, k', h3⟩ := y
    rw [h1] at h3
    cases h3
    exact ⟨F, Step.refl e2, fun _ z => z, h2.mono e1⟩
theorem yl_items (hx : F1 d = some (.frz o (.dK xs))) (r : RepK B w F1 kvs xs) : Yl B w F1 (Iti d o xs) (itemsD kvs) := fun F H e1 e2 => by
  have hq := e2 _ _ (e1 _ _ hx)
  have hl := repK_len r
  refine ⟨fun i e he => ?_, hq, by unfold itemsD; rw [List.length_map, hl]; exact Nat.le_refl _⟩
  unfold itemsD at he
  rw [List.getElem?_map] at he
  cases hk : kvs[i]? with
  | none => rw [hk] at he; cases he
  | some kv =>
    rw [hk] at he
    cases he
    obtain ⟨k, dd⟩ := kv
    obtain ⟨v, h1, h2⟩ := repK_get r hk
    refine ⟨⟨hq, (List.getElem?_eq_some_iff.mp h1).1⟩, fun x H' y => ?_⟩
    obtain ⟨T, k', v', h3, rfl, hT, rfl⟩ := y
    rw [h1] at h3
    cases h3
    exact ⟨_, Step.new e2 hT, fun s st => st.new hT, rep_pair (fresh_back e2 hT) (rep_dKy k) (h2.mono e1)⟩
end
def walkOf : D → Option (List D)
  | .dic true kvs => some (keysD kvs)
  | d => itemsOf d
/-- a list, a tuple, a text, a dict -/
def XI.wk {B : Bs} (p : XE B) : XI B where
  ti := fun Wx σ H R => (iList B.K (p.te Wx) σ H R ∨ iTup B.K (p.te Wx) σ H R ∨ iStr (p.te Wx) σ H R) ∨ iKeys (p.te Wx) σ H R
  ev := fun Γ s => (p.ev Γ s).bind fun d s1 => match walkOf d with
    | some ds => .ret (.lst ds) s1
    | none => .stuck
  ok := fun {w F H σ Γ s} Wx e st sl => by
    have h := p.ok Wx e st sl
    cases hr : p.ev Γ s with
    | stuck => trivial
    | exc c fs s' => rw [hr] at h; exact fun hx R => .inl (.inl (h hx _))
    | ret d s1 =>
      rw [hr] at h
      cases d with
      | lst ds =>
        refine fun R k => .inl (.inl (h _ fun v F1 H1 a b c => ?_))
        obtain ⟨q, xs, rfl, hq, hr⟩ := rep_lst.mp c
        exact ⟨q, rfl, ⟨xs, sq_of (a.fh _ _ hq)⟩, k _ F1 H1 a b (yl_list (sq_of hq) hr)⟩
      | rol ns =>
        refine fun R k => .inl (.inl (h _ fun v F1 H1 a b c => ?_))
        obtain ⟨q, rfl, hq⟩ := rep_rol.mp c
        exact ⟨q, rfl, ⟨_, ex_l a.fh hq⟩, k _ F1 H1 a b (yl_list hq reps_ints)⟩
      | tup pl ds =>
        refine fun R k => .inl (.inr (.inl (h _ fun v F1 H1 a b c => ?_)))
        obtain ⟨q, xs, rfl, hq, hr⟩ := rep_tupE c
        exact ⟨q, rfl, ⟨xs, ex_t a.fh hq⟩, k _ F1 H1 a b (yl_tup hq hr)⟩
      | str x =>
        refine fun R k => .inl (.inr (.inr (h _ fun v F1 H1 a b c => ?_)))
        cases rep_str.mp c
        exact ⟨x, rfl, k _ F1 H1 a b yl_str⟩
      | dic pl kvs =>
        cases pl with
        | false => trivial
        | true =>
          refine fun R k => .inr (h _ fun v F1 H1 a b c => ?_)
          obtain ⟨q, xs, o, rfl, hq, hr⟩ := rep_dicP c
          exact ⟨q, o, rfl, .inl ⟨xs, a.fh _ _ hq, k _ F1 H1 a b (yl_keys hq hr)⟩⟩
      | _ => trivial
theorem pi_wk {B : Bs} {X : Cx} {tg e : Expr} {te : TE} (hK : B.K = X.K) (he : PE X e te) : PI X tg e (fun σ H R => (iList B.K te σ H R ∨ iTup B.K te σ H R ∨ iStr te σ H R) ∨ iKeys te σ H R) := by
  refine ⟨fun pins s σ H R I h => ?_⟩
  rcases h with h | h
  · exact (pi_of hK he).run pins s σ H R I h
  · exact (pi_keys he).run pins s σ H R I h
def dicIt (f : List (Key × D) → List D) : D → Option (List D)
  | .dic true kvs => some (f kvs)
  | _ => none
/-- d.items() -/
def XI.items {B : Bs} (p : XE B) : XI B where
  ti := fun Wx => iItems (p.te Wx)
  ev := fun Γ s => (p.ev Γ s).bind fun d s1 => match dicIt itemsD d with
    | some ds => .ret (.lst ds) s1
    | none => .stuck
  ok := fun {w F H σ Γ s} Wx e st sl => by
    refine OkI.seq (u := fun x H1 R => ∃ d o kvs, x = .ref d ∧ H1 d = some (.frz o (.dK kvs)) ∧ R (Iti d o kvs) H1) (p.ok Wx e st sl) fun d ds v F1 H1 h e1 r => ?_
    unfold dicIt at h
    split at h
    · cases h
      obtain ⟨q, xs, o, rfl, h1, h2⟩ := rep_dicP r
      exact ⟨_, yl_items h1 h2, fun R k => ⟨q, o, xs, rfl, e1 _ _ h1, k⟩⟩
    · cases h
/-- d.values() -/
def XI.vals {B : Bs} (p : XE B) : XI B where
  ti := fun Wx => iVals (p.te Wx)
  ev := fun Γ s => (p.ev Γ s).bind fun d s1 => match dicIt valsD d with
    | some ds => .ret (.lst ds) s1
    | none => .stuck
  ok := fun {w F H σ Γ s} Wx e st sl => by
    refine OkI.seq (u := fun x H1 R => ∃ d o kvs, x = .ref d ∧ H1 d = some (.frz o (.dK kvs)) ∧ R (Itd d o kvs) H1) (p.ok Wx e st sl) fun d ds v F1 H1 h e1 r => ?_
    unfold dicIt at h
    split at h
    · cases h
      obtain ⟨q, xs, o, rfl, h1, h2⟩ := rep_dicP r
      exact ⟨_, yl_vals h1 h2, fun R k => ⟨q, o, xs, rfl, e1 _ _ h1, k⟩⟩
    · cases h

/-! ### dict comprehensions -/
def dcL (as : D → Option (List (Nat × D))) (t ek ev : Gm → HS → Res) (vs : List Nat) (Γ : Gm) : List D → List (Key × D) → HS → Option (List (Key × D) × HS)
  | [], acc, s => some (acc, s)
  | d :: ds, acc, s => match as d with
    | none => none
    | some l => if l.all (fun p => vs.contains p.1) = true then (match t (setGm Γ l) s with
      | .ret (.bl true) s1 => (match ek (setGm Γ l) s1 with
        | .ret y s2 => (match kyD y with
          | some k => (match ev (setGm Γ l) s2 with
            | .ret z s3 => dcL as t ek ev vs Γ ds (putKD acc k z) s3
            | _ => none)
          | none => none)
        | _ => none)
      | .ret (.bl false) s1 => dcL as t ek ev vs Γ ds acc s1
      | _ => none) else none
def dcK (o : Option (List (Key × D) × HS)) : Res := match o with
  | some (zs, s) => .ret (.dic true zs) s
  | none => .stuck
theorem putKD_len (kvs : List (Key × D)) (k : Key) (d : D) : (putKD kvs k d).length ≤ kvs.length + 1 := by
  unfold putKD
  split
  · rw [List.length_map]; omega
  · simp
/-- {k: v for g in it if t} -/
def XD.dc {B : Bs} (it : XI B) (g : XG B) (t : XT B) (ek e : XE B) (vs : List Nat) : XD B where
  te := fun Wx => tDc (it.ti Wx) g.tg (t.tt W0) (ek.te W0) (e.te W0) vs
  ev := fun Γ s => (it.ev Γ s).bindL fun ds s1 => if ds.length ≤ 100000 then dcK (dcL g.as t.ev ek.ev e.ev vs (wipeG Γ vs) ds [] s1) else .stuck
  ok := fun {w F H σ Γ s} Wx ex st sl => by
    have h := it.ok Wx ex st sl
    cases hr : it.ev Γ s with
    | stuck => trivial
    | exc c fs s' => rw [hr] at h; exact fun hx Q => h hx _
    | ret d s1 =>
      rw [hr] at h
      cases d with
      | lst ds =>
        show OkP B w F H σ Wx (NewD B w H) _ (if ds.length ≤ 100000 then dcK (dcL g.as t.ev ek.ev e.ev vs (wipeG Γ vs) ds [] s1) else .stuck)
        by_cases hl : ds.length ≤ 100000
        · rw [if_pos hl]
          cases hk : dcL g.as t.ev ek.ev e.ev vs (wipeG Γ vs) ds [] s1 with
          | none => trivial
          | some zs =>
            obtain ⟨zs, sE⟩ := zs
            intro Q q
            refine h _ fun J F1 H1 a st1 yl Dl hD => ?_
            have hD0 : H Dl = none := a.fresh ex st1 hD
            refine ⟨fun i m H' => ∃ F' s' xs ys, Step w F1 H1 F' H' ∧ StAt w s' F' H' ∧ F' Dl = none ∧ H' Dl = some (.dK xs) ∧ RepK B w F' ys xs ∧ ys.length ≤ i ∧ i ≤ ds.length ∧ m = ds.length - i ∧ dcL g.as t.ev ek.ev e.ev vs (wipeG Γ vs) (ds.drop i) ys s' = some (zs, sE),
              ⟨ds.length, F1, s1, [], [], Step.newO a.fh hD, st1.newO hD, fresh_back a.fh hD, upd_same, repK_nil.mpr rfl, Nat.le_refl _, Nat.zero_le _, by simp, by rw [List.drop_zero]; exact hk⟩, ?_⟩
            have step0 : Step w F H F1 H1 := a
            rintro i m H' ⟨F', s', xs, ys, b, st', hF, hH, rp, hyl, hi, rfl, hrest⟩
            have hOff : Off w Dl := Off.fresh st1 hD
            obtain ⟨y1, y2⟩ := yl F' H' b.ff b.fh
            by_cases hlt : i < ds.length
            · rw [drop_at hlt] at hrest
              obtain ⟨go, yi⟩ := y1 i ds[i] (List.getElem?_eq_getElem hlt)
              unfold dcL at hrest
              cases has : g.as ds[i] with
              | none => rw [has] at hrest; cases hrest
              | some l =>
                have hr2 : (if l.all (fun p => vs.contains p.1) = true then (match t.ev (setGm (wipeG Γ vs) l) s' with
                    | .ret (.bl true) s1 => (match ek.ev (setGm (wipeG Γ vs) l) s1 with
                      | .ret y s2 => (match kyD y with
                        | some k => (match e.ev (setGm (wipeG Γ vs) l) s2 with
                          | .ret z s3 => dcL g.as t.ev ek.ev e.ev vs (wipeG Γ vs) (ds.drop (i + 1)) (putKD ys k z) s3
                          | _ => none)
                        | none => none)
                      | _ => none)
                    | .ret (.bl false) s1 => dcL g.as t.ev ek.ev e.ev vs (wipeG Γ vs) (ds.drop (i + 1)) ys s1
                    | _ => none) else none) = some (zs, sE) := by rw [has] at hrest; exact hrest
                by_cases hvs : l.all (fun p => vs.contains p.1) = true
                · rw [if_pos hvs] at hr2
                  refine .inr ⟨go, fun H2 => ∃ F2 s2 xs ys, Step w F1 H1 F2 H2 ∧ StAt w s2 F2 H2 ∧ F2 Dl = none ∧ H2 Dl = some (.dK xs) ∧ RepK B w F2 ys xs ∧ ys.length ≤ i + 1 ∧ dcL g.as t.ev ek.ev e.ev vs (wipeG Γ vs) (ds.drop (i + 1)) ys s2 = some (zs, sE),
                    fun H2 ⟨F2, s2, xs, ys, z1, z2, z3, z4, z5, z6, z7⟩ => ⟨ds.length - (i + 1), by omega, F2, s2, xs, ys, z1, z2, z3, z4, z5, z6, hlt, rfl, z7⟩, fun x H2 hx => ?_⟩
                  obtain ⟨F2, c, kp, r2⟩ := yi x H2 hx
                  have st2 := kp _ st'
                  obtain ⟨l', as2, q2⟩ := g.ok has c.fh r2
                  refine q2 (wipe σ vs) _ ⟨?_, ?_⟩
                  · have hm : ∀ p ∈ l', p.1 ∈ vs := Asg.fst (P := fun n => n ∈ vs) as2 fun p hp => by
                      have := (List.all_eq_true.mp hvs) p hp
                      simpa using this
                    rw [wipe_sets hm, wipe_idem vs vs fun _ z => z]
                  · have sl2 : SlsAt B w F2 H2 (setGm (wipeG Γ vs) l) (setSt (wipe σ vs) l') := (((sl.step step0).step b).step c |>.wiped vs).sets as2
                    have hD2 := c.rest Dl _ hH hF hOff
                    have ht := t.ok W0 c.fh st2 sl2
                    cases ho : t.ev (setGm (wipeG Γ vs) l) s' with
                    | stuck => rw [ho] at hr2; cases hr2
                    | exc _ _ _ => rw [ho] at hr2; cases hr2
                    | ret dt s3 =>
                      rw [ho] at hr2 ht
                      cases dt with
                      | bl bt =>
                        refine ht _ fun F3 H3 c3 st3 => ?_
                        have hD3 := c3.rest Dl _ hD2.2 hD2.1 hOff
                        have b3 := (b.trans c).trans c3
                        cases bt with
                        | false =>
                          rw [if_neg Bool.false_ne_true]
                          exact ⟨F3, s3, xs, ys, b3, st3, hD3.1, hD3.2, (rp.mono c.ff).mono c3.ff, Nat.le_succ_of_le hyl, hr2⟩
                        | true =>
                          rw [if_pos rfl]
                          have hek := ek.ok W0 c3.fh st3 (sl2.step c3)
                          have hr3 : (match ek.ev (setGm (wipeG Γ vs) l) s3 with
                              | .ret y s2 => (match kyD y with
                                | some k => (match e.ev (setGm (wipeG Γ vs) l) s2 with
                                  | .ret z s3 => dcL g.as t.ev ek.ev e.ev vs (wipeG Γ vs) (ds.drop (i + 1)) (putKD ys k z) s3
                                  | _ => none)
                                | none => none)
                              | _ => none) = some (zs, sE) := hr2
                          cases ho2 : ek.ev (setGm (wipeG Γ vs) l) s3 with
                          | stuck => rw [ho2] at hr3; cases hr3
                          | exc _ _ _ => rw [ho2] at hr3; cases hr3
                          | ret y s4 =>
                            rw [ho2] at hr3 hek
                            have hr4 : (match kyD y with
                                | some k => (match e.ev (setGm (wipeG Γ vs) l) s4 with
                                  | .ret z s3 => dcL g.as t.ev ek.ev e.ev vs (wipeG Γ vs) (ds.drop (i + 1)) (putKD ys k z) s3
                                  | _ => none)
                                | none => none) = some (zs, sE) := hr3
                            cases hky : kyD y with
                            | none => rw [hky] at hr4; cases hr4
                            | some ky =>
                              rw [hky] at hr4
                              refine hek _ fun yv F4 H4 c4 st4 r4 => ?_
                              have hD4 := c4.rest Dl _ hD3.2 hD3.1 hOff
                              have b4 := b3.trans c4
                              have he := e.ok W0 c4.fh st4 ((sl2.step c3).step c4)
                              have hr5 : (match e.ev (setGm (wipeG Γ vs) l) s4 with
                                  | .ret z s3 => dcL g.as t.ev ek.ev e.ev vs (wipeG Γ vs) (ds.drop (i + 1)) (putKD ys ky z) s3
                                  | _ => none) = some (zs, sE) := hr4
                              cases ho3 : e.ev (setGm (wipeG Γ vs) l) s4 with
                              | stuck => rw [ho3] at hr5; cases hr5
                              | exc _ _ _ => rw [ho3] at hr5; cases hr5
                              | ret z s5 =>
                                rw [ho3] at hr5 he
                                refine he _ fun zv F5 H5 c5 st5 r5 => ?_
                                have hD5 := c5.rest Dl _ hD4.2 hD4.1 hOff
                                have b5 := b4.trans c5
                                have rp5 := (((rp.mono c.ff).mono c3.ff).mono c4.ff).mono c5.ff
                                refine ⟨xs, ky, kyD_rep hky r4, hD5.2, sz_lt (by rw [repK_len rp]; omega), F5, s5, putK xs ky zv, putKD ys ky z, ⟨b5.ff, Ex.mut b5.fh hD5.1, fun aa o h1 h2 h3 => ?_⟩, st5.mut hOff, hD5.1, upd_same, repK_put r5 rp5, by have := putKD_len ys ky z; omega, hr5⟩
                                have ad : aa ≠ Dl := ne_of_none h1 hD
                                rw [upd_ne ad]
                                exact b5.rest aa o h1 h2 h3
                      | _ => cases hr2
                · rw [if_neg hvs] at hr2; cases hr2
            · have ei : i = ds.length := by omega
              subst ei
              rw [List.drop_length] at hrest
              unfold dcL at hrest
              cases hrest
              exact .inl ⟨y2, q (.ref Dl) F' H' (step0.trans b) st' ⟨_, Dl, xs, rfl, rfl, hD0, hF, hOff, hH, rp⟩⟩
        · rw [if_neg hl]; trivial
      | _ => trivial
end Dv

set_option Elab.async false
set_option linter.all false
set_option maxRecDepth 100000
/-! # More built-ins over lists and dicts -/
namespace Dv
open PySem PySem.Spec PyProof.Rows L2 Evl

/-! ### list(x) -/
def lstF : D → Option D
  | .lst ds => some (.lst ds)
  | .tup _ ds => some (.lst ds)
  | .dic _ kvs => some (.lst (keysD kvs))
  | _ => none
def rLstL (K : PySem.W.Frag) : List V → Hp → VK → Prop := fun xs H Q => ∃ p ys, xs = [.ref p] ∧ (SqL K H p ys ∨ SqT K H p ys) ∧ ∀ l, H l = none → Q (.ref l) (upd H l (.lst ys))
def rLstD : List V → Hp → VK → Prop := fun xs H Q => ∃ (a : Addr) (kvs : List (Key × V)), xs = [.ref a] ∧ Rd H a (.dK kvs) ∧ ∀ p, H p = none → Q (.ref p) (upd H p (.lst (kvs.map fun kv => kV kv.1)))
def o_list (B : Bs) : OC B := .one lstF (fun xs H Q => rLstL B.K xs H Q ∨ rLstD xs H Q) fun {w F H v d} ex r => by
  cases d with
  | lst ds =>
    obtain ⟨p, us, rfl, h1, h2⟩ := rep_lst.mp r
    exact (OkV.new (o := .lst us) ex fun q hq => rep_lst.mpr ⟨q, _, rfl, upd_same, h2.mono (Ex.new hq)⟩).imp fun Q q => .inl ⟨p, us, rfl, .inl (sq_of (ex _ _ h1)), q⟩
  | tup pl ds =>
    obtain ⟨p, us, rfl, h1, h2⟩ := rep_tupE r
    exact (OkV.new (o := .lst us) ex fun q hq => rep_lst.mpr ⟨q, _, rfl, upd_same, h2.mono (Ex.new hq)⟩).imp fun Q q => .inl ⟨p, us, rfl, .inr (ex_t ex h1), q⟩
  | dic pl kvs =>
    obtain ⟨p, us, rfl, h1, h2⟩ := rep_dicE r
    refine (OkV.new (o := .lst (kvs.map fun kv => kV kv.1)) ex fun q hq => rep_lst.mpr ⟨q, _, rfl, upd_same, reps_keys⟩).imp fun Q q => .inr ⟨p, us, rfl, ex_rd ex h1, ?_⟩
    rw [repK_keys h2]
    exact q
  | _ => exact fun z hz => nomatch hz
theorem call_lstU {B : Bs} {X : Cx} (hK : B.K = X.K) (calm : X.calm = true) : CallR X (.type "list") (o_list B).r := by
  have h1 : CallR X (.type "list") (rLstL B.K) := by
    unfold rLstL
    rw [hK]
    exact call_list_of
  exact L2.CallR.or h1 (call_listD calm)

/-! ### sorted -/
def insS (x : Str) : List Str → List Str
  | [] => [x]
  | y :: r => if ltCps y.cps.toList x.cps.toList = true then y :: insS x r else x :: y :: r
def sortS : List Str → List Str
  | [] => []
  | x :: r => insS x (sortS r)
theorem insS_perm (x : Str) : ∀ r : List Str, (insS x r).Perm (x :: r)
  | [] => List.Perm.refl _
  | y :: r => by
    unfold insS
    split
    · exact ((insS_perm x r).cons y).trans (List.Perm.swap ..)
    · exact List.Perm.refl _
theorem sortS_perm : ∀ r : List Str, (sortS r).Perm r
  | [] => List.Perm.refl _
  | x :: r => (insS_perm x (sortS r)).trans ((sortS_perm r).cons x)
def leS (a b : Str) : Prop := ltCps b.cps.toList a.cps.toList = false
theorem leS_iff {a b : Str} : leS a b ↔ ¬ (b.cps.toList < a.cps.toList) := by
  unfold leS
  rw [ltCps_eq, decide_eq_false_iff_not]
theorem leS_le {a b : Str} : leS a b ↔ a.cps.toList ≤ b.cps.toList := by
  rw [leS_iff]
  exact List.not_lt
theorem leS_trans {a b c : Str} (h : leS a b) (k : leS b c) : leS a c := leS_le.mpr (List.le_trans (leS_le.mp h) (leS_le.mp k))
theorem leS_anti {a b : Str} (h : leS a b) (k : leS b a) : a = b := by
  have e := List.le_antisymm (leS_le.mp h) (leS_le.mp k)
  cases a
  cases b
  simpa using e
theorem leS_tot {a b : Str} : leS a b ∨ leS b a := by
  rcases List.le_total a.cps.toList b.cps.toList with h | h
  · exact .inl (leS_le.mpr h)
  · exact .inr (leS_le.mpr h)
theorem insS_sorted (x : Str) : ∀ {r : List Str}, r.Pairwise leS → (insS x r).Pairwise leS
  | [], _ => by simp [insS]
  | y :: r, h => by
    obtain ⟨h1, h2⟩ := List.pairwise_cons.mp h
    unfold insS
    split
    · rename_i hlt
      refine List.pairwise_cons.mpr ⟨fun z hz => ?_, insS_sorted x h2⟩
      rcases List.mem_cons.mp ((insS_perm x r).mem_iff.mp hz) with rfl | hz
      · rcases leS_tot (a := y) (b := z) with q | q
        · exact q
        · exact absurd hlt (by unfold leS at q; rw [q]; exact Bool.false_ne_true)
      · exact h1 z hz
    · rename_i hlt
      have hxy : leS x y := by unfold leS; exact Bool.not_eq_true _ ▸ hlt
      exact List.pairwise_cons.mpr ⟨fun z hz => by
        rcases List.mem_cons.mp hz with rfl | hz
        · exact hxy
        · exact leS_trans hxy (h1 z hz), h⟩
theorem sortS_sorted : ∀ r : List Str, (sortS r).Pairwise leS
  | [] => List.Pairwise.nil
  | x :: r => insS_sorted x (sortS_sorted r)
theorem pair_of_rising : ∀ (p : Str) (l : List Str), risingS p l = true → (p :: l).Pairwise leS
  | p, [], _ => by simp
  | p, x :: r, h => by
    have h' : (!ltCps x.cps.toList p.cps.toList && risingS x r) = true := h
    rw [Bool.and_eq_true, Bool.not_eq_true'] at h'
    have ih := pair_of_rising x r h'.2
    have hx : leS p x := h'.1
    exact List.pairwise_cons.mpr ⟨fun z hz => by
      rcases List.mem_cons.mp hz with rfl | hz
      · exact hx
      · exact leS_trans hx ((List.pairwise_cons.mp ih).1 z hz), ih⟩
theorem pair_of_sorted : ∀ {l : List Str}, sortedS l = true → l.Pairwise leS
  | [], _ => List.Pairwise.nil
  | x :: r, h => pair_of_rising x r h
theorem sortS_uniq {ys xs : List Str} (h1 : ys.Perm xs) (h2 : sortedS ys = true) : ys = sortS xs :=
  List.Perm.eq_of_pairwise (le := leS) (fun a b _ _ h k => leS_anti h k) (pair_of_sorted h2) (sortS_sorted xs) (h1.trans (sortS_perm xs).symm)
def strsD : List D → Option (List Str)
  | [] => some []
  | .str x :: r => (strsD r).map (x :: ·)
  | _ :: _ => none
theorem strsD_rep {B : Bs} {w : Wd} {F : Hp} : ∀ {ds : List D} {xs : List Str} {vs : List V}, strsD ds = some xs → Reps B w F ds vs → vs = xs.map V.str
  | [], _, _, h, r => by cases h; exact reps_nil.mp r
  | d :: ds, xs, vs, h, r => by
    obtain ⟨v, us, rfl, h1, h2⟩ := reps_cons.mp r
    cases d with
    | str x =>
      cases hs : strsD ds with
      | none => simp [strsD, hs] at h
      | some ys =>
        simp [strsD, hs] at h
        subst h
        cases rep_str.mp h1
        rw [strsD_rep hs h2]
        exact rfl
    | _ => cases h
theorem reps_strs {B : Bs} {w : Wd} {F : Hp} : ∀ {xs : List Str}, Reps B w F (xs.map D.str) (xs.map V.str)
  | [] => reps_nil.mpr rfl
  | x :: xs => reps_cons.mpr ⟨_, _, rfl, rep_str.mpr rfl, reps_strs⟩
def kstrs : List (Key × D) → Option (List Str)
  | [] => some []
  | (.inr x, _) :: r => (kstrs r).map (x :: ·)
  | _ :: _ => none
theorem kstrs_rep {B : Bs} {w : Wd} {F : Hp} : ∀ {kvs : List (Key × D)} {xs : List Str} {us : List (Key × V)}, kstrs kvs = some xs → RepK B w F kvs us → us.map (·.1) = xs.map Sum.inr
  | [], _, _, h, r => by cases h; rw [repK_nil.mp r]; rfl
  | (k, d) :: kvs, xs, us, h, r => by
    obtain ⟨v, us, rfl, h1, h2⟩ := repK_cons.mp r
    cases k with
    | inr x =>
      cases hs : kstrs kvs with
      | none => simp [kstrs, hs] at h
      | some ys =>
        simp [kstrs, hs] at h
        subst h
        rw [List.map_cons, List.map_cons, kstrs_rep hs h2]
    | inl _ => cases h
def srtS (o : Option (List Str)) : Option D := match o with
  | some xs => if xs.length < 64 then some (.lst ((sortS xs).map D.str)) else none
  | none => none
def srtF : D → Option D
  | .lst ds => srtS (strsD ds)
  | .dic _ kvs => srtS (kstrs kvs)
  | _ => none
def rSrtD : List V → Hp → VK → Prop := fun xs H Q => ∃ (a : Addr) (kvs : List (Key × V)) (ks : List Str), xs = [.ref a] ∧ Rd H a (.dK kvs) ∧ kvs.map (·.1) = ks.map Sum.inr ∧ ks.length < 64 ∧
    ∀ ys p, ys.Perm ks → sortedS ys = true → H p = none → Q (.ref p) (upd H p (.lst (ys.map V.str)))
def o_sorted (B : Bs) : OC B := .one srtF (fun xs H Q => rSortedS B.K xs H Q ∨ rSrtD xs H Q) fun {w F H v d} ex r => by
  cases d with
  | lst ds =>
    show OkV B w F H _ (srtS (strsD ds))
    cases hs : strsD ds with
    | none => exact fun z hz => nomatch hz
    | some xs =>
      show OkV B w F H _ (if xs.length < 64 then some (.lst ((sortS xs).map D.str)) else none)
      by_cases hc : xs.length < 64
      · rw [if_pos hc]
        obtain ⟨p, us, rfl, h1, h2⟩ := rep_lst.mp r
        cases strsD_rep hs h2
        refine (OkV.new (o := .lst ((sortS xs).map V.str)) ex fun q hq => rep_lst.mpr ⟨q, _, rfl, upd_same, reps_strs⟩).imp fun Q q => .inl ⟨p, xs, rfl, sq_of (ex _ _ h1), hc, fun ys p' k1 k2 k3 => ?_⟩
        rw [sortS_uniq k1 k2]
        exact q p' k3
      · rw [if_neg hc]; exact fun z hz => nomatch hz
  | dic pl kvs =>
    show OkV B w F H _ (srtS (kstrs kvs))
    cases hs : kstrs kvs with
    | none => exact fun z hz => nomatch hz
    | some xs =>
      show OkV B w F H _ (if xs.length < 64 then some (.lst ((sortS xs).map D.str)) else none)
      by_cases hc : xs.length < 64
      · rw [if_pos hc]
        obtain ⟨p, us, rfl, h1, h2⟩ := rep_dicE r
        refine (OkV.new (o := .lst ((sortS xs).map V.str)) ex fun q hq => rep_lst.mpr ⟨q, _, rfl, upd_same, reps_strs⟩).imp fun Q q => .inr ⟨p, us, xs, rfl, ex_rd ex h1, kstrs_rep hs h2, hc, fun ys p' k1 k2 k3 => ?_⟩
        rw [sortS_uniq k1 k2]
        exact q p' k3
      · rw [if_neg hc]; exact fun z hz => nomatch hz
  | _ => exact fun z hz => nomatch hz
theorem call_srtU {B : Bs} {X : Cx} (hK : B.K = X.K) (calm : X.calm = true) : CallR X (.builtin "sorted") (o_sorted B).r := by
  have h1 : CallR X (.builtin "sorted") (rSortedS B.K) := by
    rw [hK]
    exact cr_sortedS
  exact L2.CallR.or h1 (call_sortedD calm)

/-! ### sum, max, min of a list of ints -/
def intsD : List D → Option (List Int)
  | [] => some []
  | .int i :: r => (intsD r).map (i :: ·)
  | _ :: _ => none
theorem intsD_rep {B : Bs} {w : Wd} {F : Hp} : ∀ {ds : List D} {xs : List Int} {vs : List V}, intsD ds = some xs → Reps B w F ds vs → vs = xs.map V.int
  | [], _, _, h, r => by cases h; exact reps_nil.mp r
  | d :: ds, xs, vs, h, r => by
    obtain ⟨v, us, rfl, h1, h2⟩ := reps_cons.mp r
    cases d with
    | int x =>
      cases hs : intsD ds with
      | none => simp [intsD, hs] at h
      | some ys =>
        simp [intsD, hs] at h
        subst h
        cases rep_int.mp h1
        rw [intsD_rep hs h2]
        exact rfl
    | _ => cases h
def onInts (f : List Int → Option D) : D → Option D
  | .lst ds => (intsD ds).bind f
  | .rol ns => f ns
  | _ => none
theorem onInts_sq {B : Bs} {w : Wd} {F H : Hp} {f : List Int → Option D} {d z : D} {v : V} (ex : Ex F H) (r : Rep B w F d v) (h : onInts f d = some z) : ∃ p ns, v = .ref p ∧ SqL B.K H p (ns.map V.int) ∧ f ns = some z := by
  cases d with
  | lst ds =>
    obtain ⟨p, us, rfl, h1, h2⟩ := rep_lst.mp r
    have h' : (intsD ds).bind f = some z := h
    cases hs : intsD ds with
    | none => rw [hs] at h'; cases h'
    | some ns =>
      rw [hs] at h'
      cases intsD_rep hs h2
      exact ⟨p, ns, rfl, sq_of (ex _ _ h1), h'⟩
  | rol ns =>
    obtain ⟨p, rfl, hq⟩ := rep_rol.mp r
    exact ⟨p, ns, rfl, ex_l ex hq, h⟩
  | _ => cases h
def o_sum (B : Bs) : OC B := .one (onInts fun ns => some (.int ns.sum)) (rSum B.K) fun {w F H v d} ex r => by
  intro z hz Q q
  obtain ⟨p, ns, rfl, h1, h2⟩ := onInts_sq ex r hz
  cases h2
  exact ⟨p, ns, rfl, h1, q _ F H (Step.refl ex) (fun _ s => s) (rep_int.mpr rfl)⟩
def maxI : List Int → Option Int
  | [] => none
  | x :: r => match maxI r with
    | none => some x
    | some m => some (if m < x then x else m)
theorem maxI_some : ∀ {ns : List Int} {m : Int}, maxI ns = some m → m ∈ ns ∧ ∀ y ∈ ns, y ≤ m
  | [], _, h => by cases h
  | x :: r, m, h => by
    cases hr : maxI r with
    | none =>
      simp [maxI, hr] at h
      subst h
      cases r with
      | nil => simp
      | cons y r =>
        exfalso
        unfold maxI at hr
        cases h2 : maxI r with
        | none => simp [h2] at hr
        | some k => simp [h2] at hr
    | some k =>
      obtain ⟨h1, h2⟩ := maxI_some hr
      simp [maxI, hr] at h
      subst h
      by_cases hc : k < x
      · rw [if_pos hc]
        exact ⟨List.mem_cons_self .., fun y hy => by
          rcases List.mem_cons.mp hy with rfl | hy
          · exact Int.le_refl _
          · have := h2 y hy; omega⟩
      · rw [if_neg hc]
        exact ⟨List.mem_cons_of_mem _ h1, fun y hy => by
          rcases List.mem_cons.mp hy with rfl | hy
          · omega
          · exact h2 y hy⟩
def minI : List Int → Option Int
  | [] => none
  | x :: r => match minI r with
    | none => some x
    | some m => some (if x < m then x else m)
theorem minI_some : ∀ {ns : List Int} {m : Int}, minI ns = some m → m ∈ ns ∧ ∀ y ∈ ns, m ≤ y
  | [], _, h => by cases h
  | x :: r, m, h => by
    cases hr : minI r with
    | none =>
      simp [minI, hr] at h
      subst h
      cases r with
      | nil => simp
      | cons y r =>
        exfalso
        unfold minI at hr
        cases h2 : minI r with
        | none => simp [h2] at hr
        | some k => simp [h2] at hr
    | some k =>
      obtain ⟨h1, h2⟩ := minI_some hr
      simp [minI, hr] at h
      subst h
      by_cases hc : x < k
      · rw [if_pos hc]
        exact ⟨List.mem_cons_self .., fun y hy => by
          rcases List.mem_cons.mp hy with rfl | hy
          · exact Int.le_refl _
          · have := h2 y hy; omega⟩
      · rw [if_neg hc]
        exact ⟨List.mem_cons_of_mem _ h1, fun y hy => by
          rcases List.mem_cons.mp hy with rfl | hy
          · omega
          · exact h2 y hy⟩
def o_maxL (B : Bs) : OC B := .one (onInts fun ns => (maxI ns).map D.int) (rMax B.K) fun {w F H v d} ex r => by
  intro z hz Q q
  obtain ⟨p, ns, rfl, h1, h2⟩ := onInts_sq ex r hz
  cases hm : maxI ns with
  | none => rw [hm] at h2; cases h2
  | some m =>
    rw [hm] at h2
    cases h2
    obtain ⟨k1, k2⟩ := maxI_some hm
    refine ⟨p, ns, rfl, h1, List.length_pos_of_mem k1, fun m' k3 k4 => ?_⟩
    have e : m' = m := Int.le_antisymm (k2 m' k3) (k4 m k1)
    subst e
    exact q _ F H (Step.refl ex) (fun _ s => s) (rep_int.mpr rfl)
def o_minL (B : Bs) : OC B := .one (onInts fun ns => (minI ns).map D.int) (rMin B.K) fun {w F H v d} ex r => by
  intro z hz Q q
  obtain ⟨p, ns, rfl, h1, h2⟩ := onInts_sq ex r hz
  cases hm : minI ns with
  | none => rw [hm] at h2; cases h2
  | some m =>
    rw [hm] at h2
    cases h2
    obtain ⟨k1, k2⟩ := minI_some hm
    refine ⟨p, ns, rfl, h1, List.length_pos_of_mem k1, fun m' k3 k4 => ?_⟩
    have e : m' = m := Int.le_antisymm (k4 m k1) (k2 m' k3)
    subst e
    exact q _ F H (Step.refl ex) (fun _ s => s) (rep_int.mpr rfl)
section
variable {B : Bs} {X : Cx}
theorem call_sumU (hK : B.K = X.K) (calm : X.calm = true) : CallR X (.builtin "sum") (o_sum B).r := by
  show CallR X _ (rSum B.K)
  rw [hK]
  exact cr_sum calm
theorem call_maxU (hK : B.K = X.K) (calm : X.calm = true) : CallR X (.builtin "max") (o_maxL B).r := by
  show CallR X _ (rMax B.K)
  rw [hK]
  exact cr_max calm
theorem call_minU (hK : B.K = X.K) (calm : X.calm = true) : CallR X (.builtin "min") (o_minL B).r := by
  show CallR X _ (rMin B.K)
  rw [hK]
  exact cr_min calm
end

/-! ### xs * k -/
def o_repL (B : Bs) : O2 B where
  r := rRep
  f := fun d e => match d, e with
    | .lst ds, .int k => if -(2 ^ 63) ≤ k ∧ k < 2 ^ 63 ∧ ds.length * k.toNat ≤ 100000 then some (.lst (List.replicate k.toNat ds).flatten) else none
    | _, _ => none
  ok := fun {w F H x y d e} ex r1 r2 => by
    cases d with
    | lst ds =>
      cases e with
      | int k =>
        cases rep_int.mp r2
        obtain ⟨p, us, rfl, h1, h2⟩ := rep_lst.mp r1
        show OkV B w F H _ (if -(2 ^ 63) ≤ k ∧ k < 2 ^ 63 ∧ ds.length * k.toNat ≤ 100000 then some (.lst (List.replicate k.toNat ds).flatten) else none)
        by_cases hc : -(2 ^ 63) ≤ k ∧ k < 2 ^ 63 ∧ ds.length * k.toNat ≤ 100000
        · rw [if_pos hc]
          have hr : ∀ {F' : Hp} (n : Nat), Reps B w F' ds us → Reps B w F' (List.replicate n ds).flatten (List.replicate n us).flatten := fun n h => by
            induction n with
            | zero => exact reps_nil.mpr rfl
            | succ n ih => rw [List.replicate_succ, List.replicate_succ, List.flatten_cons, List.flatten_cons]; exact h.append ih
          exact (OkV.new (o := .lst (List.replicate k.toNat us).flatten) ex fun q hq => rep_lst.mpr ⟨q, _, rfl, upd_same, hr _ (h2.mono (Ex.new hq))⟩).imp fun Q q => ⟨p, k, us, rfl, rfl, ex _ _ h1, hc.1, hc.2.1, sz_of (by rw [h2.length]; exact hc.2.2), q⟩
        · rw [if_neg hc]; exact fun z hz => nomatch hz
      | _ => exact fun z hz => nomatch hz
    | _ => exact fun z hz => nomatch hz
def o_mul (B : Bs) : O2 B := (o_mulI B).or (o_repL B)
theorem op_mulU {B : Bs} {X : Cx} : OpR X (binaryOp .Mult) (o_mul B).r := OpR.or op_mul op_rep

/-! ### d.get(k, z) -/
def getE (d e z : D) (s : HS) : Res := match d with
  | .dic _ kvs => match kyD e with
    | some k => .ret ((lookK kvs k).getD z) s
    | none => .stuck
  | _ => .stuck
theorem repK_lookN {B : Bs} {w : Wd} {F : Hp} {k : Key} : ∀ {kvs : List (Key × D)} {xs : List (Key × V)}, RepK B w F kvs xs → lookK kvs k = none → valV xs k = none
  | [], _, r, _ => by rw [repK_nil.mp r]; rfl
  | (k1, d1) :: kvs, _, r, h => by
    obtain ⟨v, xs, rfl, h1, h2⟩ := repK_cons.mp r
    unfold lookK at h
    unfold valV
    rw [List.find?_cons] at h ⊢
    by_cases hk : k1 = k
    · rw [decide_eq_true hk] at h; cases h
    · rw [decide_eq_false hk] at h ⊢
      exact repK_lookN h2 h
def XE.get2 {B : Bs} (p q r : XE B) : XE B where
  te := fun Wx => tDGet2 (p.te Wx) (q.te Wx) (r.te Wx)
  ev := fun Γ s => (p.ev Γ s).bind fun d s1 => match d with
    | .dic pl kvs => (q.ev Γ s1).bind fun e s2 => (r.ev Γ s2).bind fun z s3 => getE (.dic pl kvs) e z s3
    | _ => .stuck
  ok := fun {w F H σ Γ s} Wx e st sl => by
    refine (p.ok Wx e st sl).seq (u := fun x H1 Q => ∃ a, x = .ref a ∧ IsD H1 a ∧ q.te Wx σ H1 fun y H2 => r.te Wx σ H2 fun z H3 => ∃ o, DGet H3 a y o ∧ Q (o.getD z) H3) fun d s1 v F1 H1 _ a1 st1 r1 => ?_
    cases d with
    | dic pl kvs =>
      obtain ⟨a, us, rfl, h1, h2⟩ := rep_dicE r1
      refine OkE.imp (t := fun Q => q.te Wx σ H1 fun y H2 => r.te Wx σ H2 fun z H3 => ∃ o, DGet H3 a y o ∧ Q (o.getD z) H3) ?_ fun Q z => ⟨a, rfl, .inl ⟨us, ex_rd a1.fh h1⟩, z⟩
      refine (q.ok Wx a1.fh st1 (sl.step a1)).seq (u := fun y H2 Q => r.te Wx σ H2 fun z H3 => ∃ o, DGet H3 a y o ∧ Q (o.getD z) H3) fun d2 s2 v2 F2 H2 _ a2 st2 r2 => ?_
      refine (r.ok Wx a2.fh st2 ((sl.step a1).step a2)).seq (u := fun z H3 Q => ∃ o, DGet H3 a v2 o ∧ Q (o.getD z) H3) fun d3 s3 v3 F3 H3 _ a3 st3 r3 => ?_
      show OkE B w F3 H3 σ Wx _ (match kyD d2 with
        | some k => .ret ((lookK kvs k).getD d3) s3
        | none => .stuck)
      cases hk : kyD d2 with
      | none => trivial
      | some k =>
        cases kyD_rep hk r2
        have h2' := (h2.mono a2.ff).mono a3.ff
        have hd : Rd H3 a (.dK us) := ex_rd a3.fh (ex_rd a3.ff (ex_rd a2.ff h1))
        cases hl : lookK kvs k with
        | none =>
          show OkE B w F3 H3 σ Wx _ (.ret ((lookK kvs k).getD d3) s3)
          rw [hl]
          exact OkE.imp (OkE.pure a3.fh st3 r3) fun Q z => ⟨none, .inl ⟨us, k, hd, rfl, (repK_lookN h2' hl).symm⟩, z⟩
        | some d =>
          obtain ⟨v, e1, rv⟩ := repK_look h2' hl
          show OkE B w F3 H3 σ Wx _ (.ret ((lookK kvs k).getD d3) s3)
          rw [hl]
          exact OkE.imp (OkE.pure a3.fh st3 rv) fun Q z => ⟨some v, .inl ⟨us, k, hd, rfl, e1.symm⟩, z⟩
    | _ => trivial
end Dv

set_option Elab.async false
set_option linter.all false
set_option maxRecDepth 100000
/-! # Several classes under one sign, methods, names unpacked -/
namespace Dv
open PySem PySem.Spec PyProof.Rows L2 Evl

/-! ### several classes -/
theorem hd_cons {P : Str → Gf → Prop} {c : Str} {g : Gf} {hs : Hd} (h : P c g) (t : ∀ c' g', Hd.at hs c' = some g' → P c' g') : ∀ c' g', Hd.at ((c, g) :: hs) c' = some g' → P c' g' := fun c' g' e => by
  unfold Hd.at at e t
  rw [List.find?_cons] at e
  by_cases hc : c = c'
  · subst hc
    simp at e
    rw [← e]
    exact h
  · simp only [hc, decide_false] at e
    exact t c' g' e
theorem at_cons {P : Str → At → Prop} {c : Str} {g : At} {hs : Ats} (h : P c g) (t : ∀ c' g', Ats.at hs c' = some g' → P c' g') : ∀ c' g', Ats.at ((c, g) :: hs) c' = some g' → P c' g' := fun c' g' e => by
  unfold Ats.at at e t
  rw [List.find?_cons] at e
  by_cases hc : c = c'
  · subst hc
    simp at e
    rw [← e]
    exact h
  · simp only [hc, decide_false] at e
    exact t c' g' e
theorem at_nil {P : Str → At → Prop} : ∀ c g, Ats.at [] c = some g → P c g := fun c g h => by cases h
def NoExc (g : Gf) : Prop := ∀ ds s c fs s', g ds s ≠ .exc c fs s'
def NoExA : At → Prop
  | .fld => True
  | .prop g => NoExc g
theorem nox_of {hs : Ats} (h : ∀ c t, Ats.at hs c = some t → NoExA t) : ∀ c g, Ats.at hs c = some (.prop g) → ∀ ds s c' fs s', g ds s ≠ .exc c' fs s' := fun c g e => h c (.prop g) e
section
variable {B : Bs} {X : Cx} {k n : Nat} {m f c : Str} {g : Gf} {neg : Bool}
theorem eqM (hK : B.K = X.K) (h : OwnP B X.prog X.w X.mg X.base k "__eq__" 2 c g) (e : PySem.W.findIn B.K (.ref (B.ca c)) "__ne__" = some (some (.builtin "object.__ne__")) ∧ PySem.W.mroIn B.K (B.ca c) (.type "object") = some true) : OwnEq B X k neg c g := by
  rw [hK] at e
  exact ⟨h.at hK, fun _ => e⟩
theorem atM (hK : B.K = X.K) (h : AtP B X.prog X.w X.mg X.base k f c g) : AtOk B X k f c (.prop g) := by
  obtain ⟨cl, p, fa, fd, ps, h1, h2, h3, h4⟩ := h
  rw [hK] at cl h1 h2 h4
  exact ⟨cl, p, fa, fd, ps, h1, h2, h3, h4⟩
theorem atF (hK : B.K = X.K) (h : Cls B.K (B.ca c) ∧ NoAttr B.K (B.ca c) f) : AtOk B X k f c .fld := by
  rw [hK] at h
  exact h
end

/-! ### o.m(..) -/
theorem repF_lookupN {B : Bs} {w : Wd} {F : Hp} {f : Str} : ∀ {fs : List (Str × D)} {xs : List (Str × V)}, RepF B w F fs xs → fs.lookup f = none → xs.lookup f = none
  | [], _, r, _ => by rw [repF_nil.mp r]; rfl
  | (k, e) :: fs, _, r, h => by
    obtain ⟨v, xs, rfl, h1, h2⟩ := repF_cons.mp r
    unfold List.lookup at h ⊢
    cases hk : f == k with
    | true => rw [hk] at h; cases h
    | false => rw [hk] at h; exact repF_lookupN h2 h
def methR (B : Bs) (hs : Hd) (m : Str) (n : Nat) (t : TA) (x : V) (σ : L2.St) (H1 : Hp) (Q : VK) (E : XK) : Prop :=
  ∃ c g a dx fs, hs.at c = some g ∧ x = .ref a ∧ H1 a = some (.ins (B.ca c) dx fs) ∧ fs.lookup m = none ∧ t σ H1 fun vs H2 => spD B n g (x :: vs) H2 Q E
def XE.meth {B : Bs} (hs : Hd) (m : Str) (n : Nat) (p : XE B) (ps : List (XE B)) (hn : ps.length + 1 = n) : XE B where
  te := fun Wx σ H Q => p.te Wx σ H fun x H1 => methR B hs m n (tas Wx ps) x σ H1 Q (WE Wx σ)
  ev := fun Γ s => (p.ev Γ s).bind fun d s1 => match d with
    | .ins c fs => match hs.at c with
      | some g => if (fs.lookup m).isNone = true then evs Γ ps s1 fun ds s2 => g (.ins c fs :: ds) s2 else .stuck
      | none => .stuck
    | _ => .stuck
  ok := fun {w F H σ Γ s} Wx e st sl => by
    refine (p.ok Wx e st sl).seq (u := fun x H1 Q => methR B hs m n (tas Wx ps) x σ H1 Q (WE Wx σ)) fun d s1 v F1 H1 _ a1 st1 r1 => ?_
    cases d with
    | ins c fs =>
      show OkE B w F1 H1 σ Wx _ (match hs.at c with
        | some g => if (fs.lookup m).isNone = true then evs Γ ps s1 fun ds s2 => g (.ins c fs :: ds) s2 else .stuck
        | none => .stuck)
      cases hg : hs.at c with
      | none => trivial
      | some g =>
        show OkE B w F1 H1 σ Wx _ (if (fs.lookup m).isNone = true then evs Γ ps s1 fun ds s2 => g (.ins c fs :: ds) s2 else .stuck)
        by_cases hl : (fs.lookup m).isNone = true
        · rw [if_pos hl]
          obtain ⟨q, dx, xs, rfl, h1, h2⟩ := rep_ins.mp r1
          refine OkE.imp (t := fun Q => tas Wx ps σ H1 fun vs H2 => spD B n g (.ref q :: vs) H2 Q (WE Wx σ)) ?_ fun Q z => ⟨c, g, q, dx, xs, hg, rfl, a1.fh _ _ h1, repF_lookupN h2 (Option.isNone_iff_eq_none.mp hl), z⟩
          refine evs_ok Wx ps (u := fun vs H2 Q => spD B n g (.ref q :: vs) H2 Q (WE Wx σ)) a1.fh st1 (sl.step a1) fun ds s2 vs F2 H2 a2 st2 r2 hd => ?_
          exact spD_use (g := g) (ds := .ins c fs :: ds) (by rw [List.length_cons, hd]; exact hn) a2.fh st2 (reps_cons.mpr ⟨_, _, rfl, r1.mono a2.ff, r2⟩)
        · rw [if_neg hl]; trivial
    | _ => trivial
theorem pe_methU {B : Bs} {X : Cx} {hs : Hd} {k n : Nat} {m : Str} {o e : Expr} {es : List Expr} {ta : TE} {t : TA} {apos pos : Pos} {pl : Sem Bool} {Wx : WX} (hK : B.K = X.K) (tk : Takes X Wx) (hr : Room k X.A) (hM : ∀ c g, hs.at c = some g → OwnM B X k m n c g) (he : PE X o ta) (ha : PA X (e :: es) t)
    (hst : starEach (e :: es) X.env = (false, eval e X.env) :: starEach es X.env := by rfl) (hpl : (backTo pos (starEach es X.env)).any (·.1) = false := by rfl)
    (ht : eval (.Call (.Attribute o m apos) (e :: es) [] pos) X.env = (do
      let ov ← eval o X.env
      standAt apos.atName
      let (f, first) ← holding [ov] (getMethod ov m pl)
      callWith pos f first (backTo pos (starEach (e :: es) X.env)) (backToKw pos (keywordEach [] X.env))) := by rfl) :
    PE X (.Call (.Attribute o m apos) (e :: es) [] pos) (fun σ H Q => ta σ H fun x H1 => methR B hs m n t x σ H1 Q (WE Wx σ)) := by
  refine ⟨fun pins s σ H Q I h => ?_⟩
  refine PySem.W.methodCall_KW (pl := pl) (thn (he.run pins s σ H _ I h) fun u s1 ⟨x, H1, I1, rx, c, g, a, dx, fs, hg, ex, ea, l, q⟩ => ?_) ht
  subst ex
  obtain rfl : u = Value.ref a := rx
  obtain ⟨f, fd, ps, h1, h2, h3, h3', hc, h4, h4', h5⟩ := (hM c g hg).ex
  refine getmeth_ok I1 ea hc ⟨h1, h2, h3'⟩ l ?_
  refine PySem.W.callWith_K (first := [.ref a]) (h₀ := X.base) I.ok.mod.kin h3' (thn (ha.run pos pins s1 σ H1 _ I1 q) fun us s2 ⟨vs, H2, I2, r, q2⟩ => ⟨I2.kIn, ?_⟩) hst hpl
  exact run_any (us := .ref a :: us) (vs := .ref a :: vs) h5 hr I2.env0 h4 (passAt tk σ) I2 (.cons (show L2.RelV (.ref a) (.ref a) from rfl) r) q2
theorem pe_methU0 {B : Bs} {X : Cx} {hs : Hd} {k n : Nat} {m : Str} {o : Expr} {ta : TE} {apos pos : Pos} {pl : Sem Bool} {Wx : WX} (hK : B.K = X.K) (tk : Takes X Wx) (hr : Room k X.A) (hM : ∀ c g, hs.at c = some g → OwnM B X k m n c g) (he : PE X o ta)
    (ht : eval (.Call (.Attribute o m apos) [] [] pos) X.env = (do
      let ov ← eval o X.env
      standAt apos.atName
      let (f, first) ← holding [ov] (getMethod ov m pl)
      callWith pos f first (backTo pos (starEach [] X.env)) (backToKw pos (keywordEach [] X.env))) := by rfl) :
    PE X (.Call (.Attribute o m apos) [] [] pos) (fun σ H Q => ta σ H fun x H1 => methR B hs m n tNil x σ H1 Q (WE Wx σ)) := by
  refine ⟨fun pins s σ H Q I h => ?_⟩
  refine PySem.W.methodCall_KW (pl := pl) (thn (he.run pins s σ H _ I h) fun u s1 ⟨x, H1, I1, rx, c, g, a, dx, fs, hg, ex, ea, l, q⟩ => ?_) ht
  subst ex
  obtain rfl : u = Value.ref a := rx
  obtain ⟨f, fd, ps, h1, h2, h3, h3', hc, h4, h4', h5⟩ := (hM c g hg).ex
  refine getmeth_ok I1 ea hc ⟨h1, h2, h3'⟩ l ?_
  exact PySem.W.callWith_K0 (first := [.ref a]) I1.kIn h3' (run_any (us := [.ref a]) (vs := [.ref a]) h5 hr I1.env0 h4 (passAt tk σ) I1 (.cons (show L2.RelV (.ref a) (.ref a) from rfl) .nil) q)

/-! ### targets -/
/-- a, b, .. = e -/
def XS.asg {B : Bs} (g : XG B) (p : XE B) : XS B where
  ts := fun Wx => tAsg (p.te Wx) g.tg
  ev := fun Γ s => (p.ev Γ s).out Γ fun d s1 => match g.as d with
    | some l => .nxt (setGm Γ l) s1
    | none => .stuck
  ok := fun {w Z F H σ Γ s} Wx D' gd => by
    refine (p.ok Wx gd.fh gd.st gd.sl).stm gd (u := fun x H1 => g.tg x σ H1 D'.nx) fun d s1 v F1 H1 _ a g1 r => ?_
    cases has : g.as d with
    | none => trivial
    | some l =>
      obtain ⟨l', h1, h2⟩ := g.ok has g1.fh r
      exact fun k => h2 σ _ (k F1 H1 _ (Ex.refl F1) (g1.sets h1))
/-- a, b, c = x, y, z -/
def XS.par3 {B : Bs} (i j l : Nat) (p q r : XE B) : XS B where
  ts := fun Wx => tPar3 i j l (tas Wx [p, q, r])
  ev := fun Γ s => (p.ev Γ s).out Γ fun d s1 => (q.ev Γ s1).out Γ fun e s2 => (r.ev Γ s2).out Γ fun f s3 => .nxt (((Γ.set i (.fr d)).set j (.fr e)).set l (.fr f)) s3
  ok := fun {w Z F H σ Γ s} Wx D' g => by
    refine (p.ok Wx g.fh g.st g.sl).stm g (u := fun v H1 => q.te Wx σ H1 fun u H2 => r.te Wx σ H2 fun y H3 => ∃ a b c, [v, u, y] = [a, b, c] ∧ D'.nx (((σ.set i (some a)).set j (some b)).set l (some c)) H3) fun d s1 v F1 H1 _ a g1 r1 => ?_
    refine (q.ok Wx g1.fh g1.st g1.sl).stm g1 (u := fun u H2 => r.te Wx σ H2 fun y H3 => ∃ a b c, [v, u, y] = [a, b, c] ∧ D'.nx (((σ.set i (some a)).set j (some b)).set l (some c)) H3) fun e s2 u F2 H2 _ a2 g2 r2 => ?_
    refine (r.ok Wx g2.fh g2.st g2.sl).stm g2 (u := fun y H3 => ∃ a b c, [v, u, y] = [a, b, c] ∧ D'.nx (((σ.set i (some a)).set j (some b)).set l (some c)) H3) fun f s3 y F3 H3 _ a3 g3 r3 => ?_
    exact fun k => ⟨v, u, y, rfl, k F3 H3 _ (Ex.refl F3) (((g3.set ((r1.mono a2.ff).mono a3.ff)).set (r2.mono a3.ff)).set r3)⟩
theorem Good.setNew {B : Bs} {w : Wd} {Z : Zs} {F H H0 : Hp} {σ : L2.St} {Γ : Gm} {s : HS} {i : Nat} {kvs : List (Key × D)} {p : Addr} (g : Good B w Z F H σ Γ s) (hs : SlAt B w F H (.dco kvs) (some (.ref p))) (hz : Z p = none) (hno : ∀ (j : Nat) (u : Sl), Γ[j]? = some u → owned u = true → σ[j]? ≠ some (some (.ref p))) :
    Good B w Z F H (σ.set i (some (.ref p))) (Γ.set i (.dco kvs)) s := g.setO (fun _ _ z => nomatch z) hs hz hno
/-- a, b, c = x, {}, {} -/
def XS.par3D {B : Bs} (i j l : Nat) (p : XE B) : XS B where
  ts := fun Wx => tPar3 i j l (tCons (p.te Wx) (tCons tDNewK (tCons tDNewK tNil)))
  ev := fun Γ s => (p.ev Γ s).out Γ fun d s1 => .nxt (((Γ.set i (.fr d)).set j (.dco [])).set l (.dco [])) s1
  ok := fun {w Z F H σ Γ s} Wx D' g => by
    refine (p.ok Wx g.fh g.st g.sl).stm g (u := fun v H1 => ∀ a, H1 a = none → ∀ b, (upd H1 a (.dK [])) b = none → ∃ x y z, [v, V.ref a, V.ref b] = [x, y, z] ∧ D'.nx (((σ.set i (some x)).set j (some y)).set l (some z)) (upd (upd H1 a (.dK [])) b (.dK []))) fun d s1 v F1 H1 _ st g1 r1 => ?_
    refine fun k a ha b hb => ⟨v, .ref a, .ref b, rfl, k F1 _ _ (Ex.refl F1) ?_⟩
    have hab : a ≠ b := fun z => by subst z; rw [upd_same] at hb; cases hb
    have hb1 : H1 b = none := by rw [upd_ne hab.symm] at hb; exact hb
    have fa : F1 a = none := fresh_back g1.fh ha
    have fb : F1 b = none := fresh_back g1.fh hb1
    have oa : Off w a := Off.fresh g1.st ha
    have ob : Off w b := Off.fresh g1.st hb1
    have s1' : Step w F1 H1 F1 (upd H1 a (.dK [])) := Step.newO g1.fh ha
    have g2 := g1.step s1' (g1.st.newO ha)
    have s2' : Step w F1 (upd H1 a (.dK [])) F1 (upd (upd H1 a (.dK [])) b (.dK [])) := Step.newO g2.fh hb
    have g3 := g2.step s2' (g2.st.newO hb)
    have za : Z a = none := by
      cases hz : Z a with
      | none => rfl
      | some o => rw [(g1.zz a o hz).2.1] at ha; cases ha
    have zb : Z b = none := by
      cases hz : Z b with
      | none => rfl
      | some o => rw [(g1.zz b o hz).2.1] at hb1; cases hb1
    have g4 := g3.set (i := i) (r1.mono (Ex.refl F1))
    have olda : ∀ (n : Nat) (u : Sl), (Γ.set i (.fr d))[n]? = some u → owned u = true → (σ.set i (some v))[n]? ≠ some (some (.ref a)) := fun n u e ho => by
      by_cases hin : i = n
      · subst hin
        rw [List.getElem?_set, if_pos rfl] at e
        split at e
        · cases e; cases ho
        · cases e
      · rw [List.getElem?_set_ne hin] at e ⊢
        exact g1.old ha n u e ho
    have oldb : ∀ (n : Nat) (u : Sl), (Γ.set i (.fr d))[n]? = some u → owned u = true → (σ.set i (some v))[n]? ≠ some (some (.ref b)) := fun n u e ho => by
      by_cases hin : i = n
      · subst hin
        rw [List.getElem?_set, if_pos rfl] at e
        split at e
        · cases e; cases ho
        · cases e
      · rw [List.getElem?_set_ne hin] at e ⊢
        exact g1.old hb1 n u e ho
    have g5 := g4.setO (i := j) (t := .dco []) (fun _ _ z => nomatch z) ⟨a, [], rfl, fa, oa, by rw [upd_ne hab, upd_same], repK_nil.mpr rfl⟩ za olda
    refine g5.setO (i := l) (t := .dco []) (fun _ _ z => nomatch z) ⟨b, [], rfl, fb, ob, upd_same, repK_nil.mpr rfl⟩ zb fun n u e ho => ?_
    by_cases hjn : j = n
    · subst hjn
      rw [List.getElem?_set, if_pos rfl]
      split
      · intro z; cases z; exact hab rfl
      · intro z; cases z
    · rw [List.getElem?_set_ne hjn] at e ⊢
      exact oldb n u e ho
/-- a new list of things that are no objects, made while own objects are looked at -/
def scals : List D → Bool
  | [] => true
  | d :: ds => scal d && scals ds
theorem scals_rep {B : Bs} {w : Wd} {F F' : Hp} : ∀ {ds : List D} {vs : List V}, scals ds = true → Reps B w F ds vs → Reps B w F' ds vs
  | [], _, _, r => reps_nil.mpr (reps_nil.mp r)
  | d :: ds, _, h, r => by
    obtain ⟨v, vs, rfl, h1, h2⟩ := reps_cons.mp r
    unfold scals at h
    rw [Bool.and_eq_true] at h
    exact reps_cons.mpr ⟨v, vs, rfl, scal_rep h.1 h1, scals_rep h.2 h2⟩
def XN.view {B : Bs} (p : XN B) : XN B where
  te := p.te
  ev := fun Γ s => match p.ev (frzA Γ) s with
    | .ret (.lst ds) s1 => if scals ds = true then .ret (.lst ds) s1 else .stuck
    | _ => .stuck
  ok := fun {w F H σ Γ s} Wx e st sl => by
    have h := p.ok Wx (Fv.down e) (Fv.st st sl) (Fv.sl sl)
    cases hr : p.ev (frzA Γ) s with
    | ret d s1 =>
      rw [hr] at h
      cases d with
      | lst ds =>
        show OkP B w F H σ Wx (NewL B w H) _ (if scals ds = true then .ret (.lst ds) s1 else .stuck)
        by_cases hd : scals ds = true
        · rw [if_pos hd]
          refine fun Q q => h Q fun v F' H' a b' ⟨ds', p', xs, e1, e2, h1, h2, h3, h4, r⟩ => ?_
          cases e1
          obtain ⟨k1, k2⟩ := Fv.back e st sl a b'
          exact q v F H' k1 k2 ⟨ds, p', xs, rfl, e2, h1, fresh_back e h1, h3, h4, scals_rep hd r⟩
        · rw [if_neg hd]; trivial
      | _ => trivial
    | _ => trivial
end Dv
namespace Dv
open PySem PySem.Spec PyProof.Rows L2 Evl
theorem noX_dct {B : Bs} {o : ODc B} {p : XE B} (hp : NoX p) : NoX (XE.ofD (XD.blt o [p])) := fun Γ s c fs s' h => by
  have h' : ((p.ev Γ s).bind fun d s1 => match o.f [d] with
    | some kvs => Res.ret (.dic true kvs) s1
    | none => .stuck) = .exc c fs s' := h
  cases hr : p.ev Γ s with
  | exc c1 f1 s1 => exact hp _ _ _ _ _ hr
  | stuck => rw [hr] at h'; cases h'
  | ret d s1 =>
    rw [hr] at h'
    have h2 : (match o.f [d] with
      | some kvs => Res.ret (.dic true kvs) s1
      | none => .stuck) = .exc c fs s' := h'
    cases hf : o.f [d] with
    | none => rw [hf] at h2; cases h2
    | some kvs => rw [hf] at h2; cases h2
end Dv
namespace Dv
open PySem PySem.Spec PyProof.Rows L2 Evl
/-- an error's __init__ that stores its two arguments -/
theorem oex2_body {K : PySem.W.Frag} {C : Addr} {f f2 : Str} {N : List Str} (hN : N.length = 3) (T : OexC K C) (hf : PySem.W.findIn K (.ref C) f = some none) (hf2 : PySem.W.findIn K (.ref C) f2 = some none) {vs : List V} {H : Hp} {Q : VK} {E : XK} (h : spX C [f, f2] vs H Q E) :
    (tSeq (tOst K f (tVar 0) (tVar 1)) (tOst K f2 (tVar 0) (tVar 2))) { nx := fun _ H' => Q .non H', rt := Q } (L2.start N vs) H := by
  obtain ⟨a, ws, rfl, hl, ha, q⟩ := h
  match ws, hl with
  | [y, z], _ =>
    have e0 : (L2.start N [.ref a, y, z])[0]? = some (some (.ref a)) := rfl
    have e1 : (L2.start N [.ref a, y, z])[1]? = some (some y) := rfl
    have e2 : (L2.start N [.ref a, y, z])[2]? = some (some z) := rfl
    refine ⟨y, e1, .ref a, e0, a, C, rfl, T, hf, .inl ⟨ha, fun d hd hne => ?_⟩⟩
    refine ⟨z, e2, .ref a, e0, a, C, rfl, T, hf2, .inr ⟨d, [(f, y)], upd_same, by rw [upd_ne hne, upd_same], by show 1 ≤ 900; omega, ?_⟩⟩
    have e : upd (upd (upd H d (exd d [(f, y)])) a (exo a C (some d))) d (exd d [(f2, z), (f, y)]) = upd (upd H d (exd d [(f2, z), (f, y)])) a (exo a C (some d)) := by
      funext b
      by_cases hb : b = d
      · subst hb; rw [upd_same, upd_ne hne, upd_same]
      · rw [upd_ne hb]
        by_cases hb2 : b = a
        · subst hb2; rw [upd_same, upd_same]
        · rw [upd_ne hb2, upd_ne hb2, upd_ne hb, upd_ne hb]
    show Q .non (upd (upd (upd H d (exd d [(f, y)])) a (exo a C (some d))) d (exd d [(f2, z), (f, y)]))
    rw [e]
    exact q d hd hne
end Dv

set_option Elab.async false
set_option linter.all false
set_option maxRecDepth 100000
/-! # What a package's plain function answers, by its parts -/
namespace Dv
open PySem PySem.Spec PyProof.Rows L2 Evl
section
variable {B : Bs} {Γ Γ1 : Gm} {s s1 s2 s3 : HS} {d e z : D} {p q r : XE B} {t u : XT B} {a b : XS B} {i j : Nat} {c : Str} {fs : List (Str × D)}
theorem ev_op2 {o : O2 B} (h1 : p.ev Γ s = .ret d s1) (h2 : q.ev Γ s1 = .ret e s2) (h : o.f d e = some z) : (XE.op2 o p q).ev Γ s = .ret z s2 := by
  show (p.ev Γ s).bind _ = _
  rw [h1]
  show (q.ev Γ s1).bind _ = _
  rw [h2]
  show Res.opt (o.f d e) s2 = _
  rw [h]
  exact rfl
theorem ev_blt1 {o : OC B} (h1 : p.ev Γ s = .ret d s1) (h : o.f [d] = some z) : (XE.blt o [p]).ev Γ s = .ret z s1 := by
  show (p.ev Γ s).bind _ = _
  rw [h1]
  show Res.opt (o.f [d]) s1 = _
  rw [h]
  exact rfl
theorem ev_blt2 {o : OC B} (h1 : p.ev Γ s = .ret d s1) (h2 : q.ev Γ s1 = .ret e s2) (h : o.f [d, e] = some z) : (XE.blt o [p, q]).ev Γ s = .ret z s2 := by
  show (p.ev Γ s).bind _ = _
  rw [h1]
  show (q.ev Γ s1).bind _ = _
  rw [h2]
  show Res.opt (o.f [d, e]) s2 = _
  rw [h]
  exact rfl
theorem ev_var (h : Γ[i]? = some (.fr d)) : (XE.var B i).ev Γ s = .ret d s := by
  show Sl.get Γ[i]? s = _
  rw [h]
  exact rfl
theorem ev_ixL {ds : List D} {k : Int} (h1 : p.ev Γ s = .ret (.lst ds) s1) (h2 : q.ev Γ s1 = .ret (.int k) s2) (h : atI ds k = some z) {hs : Hd} : (XE.ix hs p q).ev Γ s = .ret z s2 := by
  show (p.ev Γ s).bind _ = _
  rw [h1]
  show (q.ev Γ s1).bind _ = _
  rw [h2]
  show Res.opt (atI ds k) s2 = _
  rw [h]
  exact rfl
theorem ev_ixT {ds : List D} {pl : Bool} {k : Int} (h1 : p.ev Γ s = .ret (.tup pl ds) s1) (h2 : q.ev Γ s1 = .ret (.int k) s2) (h : atI ds k = some z) {hs : Hd} : (XE.ix hs p q).ev Γ s = .ret z s2 := by
  show (p.ev Γ s).bind _ = _
  rw [h1]
  show (q.ev Γ s1).bind _ = _
  rw [h2]
  show Res.opt (atI ds k) s2 = _
  rw [h]
  exact rfl
theorem ev_set (h : p.ev Γ s = .ret d s1) : (XS.set i p).ev Γ s = .nxt (Γ.set i (.fr d)) s1 := by
  show (p.ev Γ s).out Γ _ = _
  rw [h]
  exact rfl
theorem ev_seq (h : a.ev Γ s = .nxt Γ1 s1) : (XS.seq a b).ev Γ s = b.ev Γ1 s1 := by
  show (a.ev Γ s).bind b.ev = _
  rw [h]
  exact rfl
theorem ev_ret (h : p.ev Γ s = .ret d s1) : (XS.ret p).ev Γ s = .ret d s1 := by
  show (p.ev Γ s).out Γ _ = _
  rw [h]
  exact rfl
theorem ev_ofE {k : Bool} (h : p.ev Γ s = .ret (.bl k) s1) : (XT.ofE p).ev Γ s = .ret (.bl k) s1 := by
  show (p.ev Γ s).tst = _
  rw [h]
  exact rfl
theorem ev_iteT (h : t.ev Γ s = .ret (.bl true) s1) : (XS.ite t a b).ev Γ s = a.ev Γ s1 := by
  show (t.ev Γ s).outB Γ _ = _
  rw [h]
  show (if true = true then a.ev Γ s1 else b.ev Γ s1) = _
  rw [if_pos rfl]
theorem ev_iteF (h : t.ev Γ s = .ret (.bl false) s1) : (XS.ite t a b).ev Γ s = b.ev Γ s1 := by
  show (t.ev Γ s).outB Γ _ = _
  rw [h]
  show (if false = true then a.ev Γ s1 else b.ev Γ s1) = _
  rw [if_neg Bool.false_ne_true]
theorem ev_h0 (h : isHnd Γ i = true) : (XE.h0 B i).ev Γ s = .ret (.int s.st) s := if_pos h
theorem ev_h2 (h : isHnd Γ i = true) : (XE.h2 B i).ev Γ s = .ret (.int s.ix) s := if_pos h
theorem ev_hlen (h : isHnd Γ i = true) : (XE.hlen B i).ev Γ s = .ret (.int (s.cells.length : Nat)) s := if_pos h
theorem ev_hcat (h : isHnd Γ i = true) (hl : s.cells.length + 1 ≤ 100000) : (XE.hcat B i).ev Γ s = .ret (.lst ((s.cells ++ [0]).map D.int)) s := if_pos ⟨h, hl⟩
theorem ev_sh0 {n : Int} (h : isHnd Γ i = true) (h1 : p.ev Γ s = .ret (.int n) s1) : (XS.h0 i p).ev Γ s = .nxt Γ { s1 with st := n } := by
  show (p.ev Γ s).out Γ _ = _
  rw [h1]
  exact if_pos h
theorem ev_sh2 {n : Int} (h : isHnd Γ i = true) (h1 : p.ev Γ s = .ret (.int n) s1) : (XS.h2 i p).ev Γ s = .nxt Γ { s1 with ix := n } := by
  show (p.ev Γ s).out Γ _ = _
  rw [h1]
  exact if_pos h
theorem ev_hc {n k : Int} {m : Nat} (h : isHnd Γ i = true) (h1 : p.ev Γ s = .ret (.int n) s1) (h2 : q.ev Γ s1 = .ret (.int k) s2) (h3 : ixN s2.cells.length k = some m) : (XS.hc i q p).ev Γ s = .nxt Γ { s2 with cells := s2.cells.set m n } := by
  show (if isHnd Γ i = true then _ else _) = _
  rw [if_pos h]
  show (p.ev Γ s).out Γ _ = _
  rw [h1]
  show (q.ev Γ s1).out Γ _ = _
  rw [h2]
  show (if isHnd Γ i = true then match ixN s2.cells.length k with
    | some j => Out.nxt Γ { s2 with cells := s2.cells.set j n }
    | none => .stuck
  else .stuck) = _
  rw [if_pos h, h3]
end
end Dv
namespace Dv
open PySem PySem.Spec PyProof.Rows L2 Evl
section
variable {B : Bs} {Γ Γ1 : Gm} {s s1 s2 s3 : HS} {d e z : D} {p q r : XE B} {t u : XT B} {a b : XS B} {i j : Nat} {c : Str} {fs : List (Str × D)}
theorem ev_call1 {g : Gf} {R : Res} {h : [p].length = 1} (h1 : p.ev Γ s = .ret d s1) (hg : g [d] s1 = R) : (XE.call 1 g [p] h).ev Γ s = R := by
  show (p.ev Γ s).bind _ = _
  rw [h1]
  exact hg
theorem ev_call2 {g : Gf} {R : Res} {h : [p, q].length = 2} (h1 : p.ev Γ s = .ret d s1) (h2 : q.ev Γ s1 = .ret e s2) (hg : g [d, e] s2 = R) : (XE.call 2 g [p, q] h).ev Γ s = R := by
  show (p.ev Γ s).bind _ = _
  rw [h1]
  show (q.ev Γ s1).bind _ = _
  rw [h2]
  exact hg
theorem ev_lenL {hs : Hd} {ds : List D} (h1 : p.ev Γ s = .ret (.lst ds) s1) : (XE.len hs p).ev Γ s = .ret (.int (ds.length : Nat)) s1 := by
  show (p.ev Γ s).bind _ = _
  rw [h1]
  exact rfl
theorem ev_lenT {hs : Hd} {ds : List D} {pl : Bool} (h1 : p.ev Γ s = .ret (.tup pl ds) s1) : (XE.len hs p).ev Γ s = .ret (.int (ds.length : Nat)) s1 := by
  show (p.ev Γ s).bind _ = _
  rw [h1]
  exact rfl
theorem ev_viewT {k : Bool} (h : t.ev (frzA Γ) s = .ret (.bl k) s1) : (XT.view t).ev Γ s = .ret (.bl k) s1 := by
  show (match t.ev (frzA Γ) s with
    | .ret (.bl b) s1 => Res.ret (.bl b) s1
    | _ => .stuck) = _
  rw [h]
theorem ev_viewE (h : p.ev (frzA Γ) s = .ret d s1) (hs : scal d = true) : (XE.view p).ev Γ s = .ret d s1 := by
  show (match p.ev (frzA Γ) s with
    | .ret d s1 => if scal d = true then Res.ret d s1 else .stuck
    | _ => .stuck) = _
  rw [h]
  exact if_pos hs
theorem ev_app {ds : List D} (hi : Γ[i]? = some (.lo ds)) (hl : ds.length < 100000) (h : p.ev Γ s = .ret d s1) : (XS.app i p).ev Γ s = .nxt (Γ.set i (.lo (ds ++ [d]))) s1 := by
  show (match (Γ[i]? : Option Sl) with
    | some (.lo ds) => if ds.length < 100000 then (p.ev Γ s).out Γ fun d s1 => Out.nxt (Γ.set i (.lo (ds ++ [d]))) s1 else .stuck
    | _ => .stuck) = _
  rw [hi]
  show (if ds.length < 100000 then (p.ev Γ s).out Γ fun d s1 => Out.nxt (Γ.set i (.lo (ds ++ [d]))) s1 else .stuck) = _
  rw [if_pos hl, h]
  exact rfl
theorem ev_pop {ds ds' : List D} {k : Int} (hi : Γ[i]? = some (.lo ds)) (h : p.ev Γ s = .ret (.int k) s1) (hp : popAtD ds k = some ds') : (XS.popAt i p).ev Γ s = .nxt (Γ.set i (.lo ds')) s1 := by
  unfold XS.popAt
  dsimp only
  rw [hi]
  dsimp only
  rw [h]
  unfold Res.out
  dsimp only
  rw [hp]
theorem ev_frz {P : XS B} {o : Out} (h : P.ev (frzG Γ i) s = o) : (XS.frz i P).ev Γ s = o := h
end
end Dv
namespace Dv
open PySem PySem.Spec PyProof.Rows L2 Evl
section
variable {B : Bs} {Γ Γ1 Γ2 : Gm} {s s1 s2 s3 : HS} {d e z : D} {p q r : XE B} {n : Nat}
theorem while_go {t : Gm → HS → Res} {b : Gm → HS → Out} (h1 : t Γ s = .ret (.bl true) s1) (h2 : b Γ s1 = .nxt Γ2 s2) : whileL t b (n + 1) Γ s = whileL t b n Γ2 s2 := by
  show (t Γ s).outB Γ (fun c s1 => if c = true then (b Γ s1).turn (whileL t b n) else .nxt Γ s1) = _
  rw [h1]
  show (if true = true then (b Γ s1).turn (whileL t b n) else .nxt Γ s1) = _
  rw [if_pos rfl, h2]
  exact rfl
theorem while_end {t : Gm → HS → Res} {b : Gm → HS → Out} (h1 : t Γ s = .ret (.bl false) s1) : whileL t b (n + 1) Γ s = .nxt Γ s1 := by
  show (t Γ s).outB Γ (fun c s1 => if c = true then (b Γ s1).turn (whileL t b n) else .nxt Γ s1) = _
  rw [h1]
  exact rfl
theorem for_cons {g : XG B} {b : Gm → HS → Out} {ds : List D} {l : List (Nat × D)} (h1 : g.as d = some l) (h2 : b (setGm Γ l) s = .nxt Γ2 s2) : forL g b (d :: ds) Γ s = forL g b ds Γ2 s2 := by
  show (match g.as d with
    | none => Out.stuck
    | some l => (b (setGm Γ l) s).turn (forL g b ds)) = _
  rw [h1]
  show (b (setGm Γ l) s).turn (forL g b ds) = _
  rw [h2]
  exact rfl
theorem for_nil {g : XG B} {b : Gm → HS → Out} : forL g b [] Γ s = .nxt Γ s := rfl
theorem ev_for {it : XI B} {g : XG B} {b : XS B} {ds : List D} (h : it.ev Γ s = .ret (.lst ds) s1) : (XS.for it g b).ev Γ s = forL g b.ev ds Γ s1 := by
  show (it.ev Γ s).outL Γ _ = _
  rw [h]
  exact rfl
theorem ev_tup2 {h : [p, q].length ≤ 100000} (h1 : p.ev Γ s = .ret d s1) (h2 : q.ev Γ s1 = .ret e s2) : (XE.tup [p, q] h).ev Γ s = .ret (.tup true [d, e]) s2 := by
  show (p.ev Γ s).bind _ = _
  rw [h1]
  show (q.ev Γ s1).bind _ = _
  rw [h2]
  exact rfl
end
end Dv
namespace Dv
open PySem PySem.Spec PyProof.Rows L2 Evl
section
variable {B : Bs} {Γ Γ1 Γ2 : Gm} {s s1 s2 s3 : HS} {d e z : D} {p q r : XE B} {t u : XT B} {n : Nat} {R : Res}
theorem ev_isi {f : Kd → Option Bool} (h1 : p.ev Γ s = .ret d s1) (h2 : isiE f d s1 = R) : (XE.isi f p).ev Γ s = R := by
  show (p.ev Γ s).bind _ = _
  rw [h1]
  exact h2
theorem ev_isiT {f : Kd → Option Bool} (h1 : p.ev Γ s = .ret d s1) (h2 : isiE f d s1 = R) : (XE.isiT f p).ev Γ s = R := by
  show (p.ev Γ s).bind _ = _
  rw [h1]
  exact h2
theorem ev_eq {neg : Bool} {hs : Hd} (h1 : p.ev Γ s = .ret d s1) (h2 : q.ev Γ s1 = .ret e s2) (h3 : eqE neg hs d e s2 = R) : (XE.eq neg hs p q).ev Γ s = R := by
  show (p.ev Γ s).bind _ = _
  rw [h1]
  show (q.ev Γ s1).bind _ = _
  rw [h2]
  exact h3
theorem ev_orT (h1 : t.ev Γ s = .ret (.bl true) s1) : (XT.or t u).ev Γ s = .ret (.bl true) s1 := by
  show (t.ev Γ s).bindB _ = _
  rw [h1]
  exact rfl
theorem ev_orF (h1 : t.ev Γ s = .ret (.bl false) s1) (h2 : u.ev Γ s1 = R) : (XT.or t u).ev Γ s = R := by
  show (t.ev Γ s).bindB _ = _
  rw [h1]
  exact h2
theorem ev_notT {k : Bool} (h1 : t.ev Γ s = .ret (.bl k) s1) : (XT.not t).ev Γ s = .ret (.bl (!k)) s1 := by
  show (t.ev Γ s).bindB _ = _
  rw [h1]
  exact rfl
theorem ev_andE (h1 : p.ev Γ s = .ret (.bl true) s1) (h2 : q.ev Γ s1 = R) : (XE.and p q).ev Γ s = R := by
  show (p.ev Γ s).bindB _ = _
  rw [h1]
  exact h2
theorem ev_lc {it : XI B} {g : XG B} {x : XE B} {vs : List Nat} {ds zs : List D} (h1 : it.ev Γ s = .ret (.lst ds) s1) (hl : ds.length ≤ 100000) (h2 : lcL g.as t.ev x.ev vs (wipeG Γ vs) ds s1 = some (zs, s2)) : (XE.ofN (XN.lc it g t x vs)).ev Γ s = .ret (.lst zs) s2 := by
  show (it.ev Γ s).bindL _ = _
  rw [h1]
  show (if ds.length ≤ 100000 then lcK (lcL g.as t.ev x.ev vs (wipeG Γ vs) ds s1) else .stuck) = _
  rw [if_pos hl, h2]
  exact rfl
theorem ev_range1 {k : Int} (h1 : p.ev Γ s = .ret (.int k) s1) (h2 : -(2 ^ 62) ≤ k ∧ k < 2 ^ 62) : (XI.range1 p).ev Γ s = .ret (.lst (rangeD 0 k)) s1 := by
  show (p.ev Γ s).bind _ = _
  rw [h1]
  exact if_pos h2
theorem ev_of {ds : List D} (h1 : p.ev Γ s = .ret d s1) (h2 : itemsOf d = some ds) : (XI.of p).ev Γ s = .ret (.lst ds) s1 := by
  show (p.ev Γ s).bind _ = _
  rw [h1]
  show (match itemsOf d with
    | some ds => Res.ret (.lst ds) s1
    | none => .stuck) = _
  rw [h2]
theorem lc_skip {as : D → Option (List (Nat × D))} {tt : Gm → HS → Res} {ee : Gm → HS → Res} {vs : List Nat} {ds : List D} {l : List (Nat × D)} (h1 : as d = some l) (h2 : l.all (fun p => vs.contains p.1) = true) (h3 : tt (setGm Γ l) s = .ret (.bl false) s1) :
    lcL as tt ee vs Γ (d :: ds) s = lcL as tt ee vs Γ ds s1 := by
  rw [lcL, h1]
  dsimp only
  rw [if_pos h2, h3]
theorem lc_put {as : D → Option (List (Nat × D))} {tt : Gm → HS → Res} {ee : Gm → HS → Res} {vs : List Nat} {ds zs : List D} {l : List (Nat × D)} (h1 : as d = some l) (h2 : l.all (fun p => vs.contains p.1) = true) (h3 : tt (setGm Γ l) s = .ret (.bl true) s1) (h4 : ee (setGm Γ l) s1 = .ret z s2)
    (h5 : lcL as tt ee vs Γ ds s2 = some (zs, s3)) : lcL as tt ee vs Γ (d :: ds) s = some (z :: zs, s3) := by
  rw [lcL, h1]
  dsimp only
  rw [if_pos h2, h3]
  dsimp only
  rw [h4]
  dsimp only
  rw [h5]
end
end Dv

set_option Elab.async false
set_option linter.all false
set_option maxRecDepth 100000
/-! # What a package's plain function answers, as equations to rewrite by -/
namespace Dv
open PySem PySem.Spec PyProof.Rows L2 Evl
section
variable {B : Bs} {Γ : Gm} {s : HS} {p q r : XE B} {ps : List (XE B)} {t u : XT B} {a b : XS B} {i j l n : Nat} {d e : D} {c f m : Str} {g : Gf} {fs : List (Str × D)}
@[simp] theorem z_var : (XE.var B i).ev Γ s = Sl.get Γ[i]? s := rfl
@[simp] theorem z_cst {v : V} {h} : (XE.cst B d v h).ev Γ s = .ret d s := rfl
@[simp] theorem z_get : Sl.get (some (.fr d)) s = .ret d s := rfl
@[simp] theorem z_bind {k : D → HS → Res} : (Res.ret d s).bind k = k d s := rfl
@[simp] theorem z_bindX {k : D → HS → Res} : (Res.exc c fs s).bind k = .exc c fs s := rfl
@[simp] theorem z_bindB {k : Bool → HS → Res} {x : Bool} : (Res.ret (.bl x) s).bindB k = k x s := rfl
@[simp] theorem z_bindBX {k : Bool → HS → Res} : (Res.exc c fs s).bindB k = .exc c fs s := rfl
@[simp] theorem z_bindL {k : List D → HS → Res} {ds : List D} : (Res.ret (.lst ds) s).bindL k = k ds s := rfl
@[simp] theorem z_bindLX {k : List D → HS → Res} : (Res.exc c fs s).bindL k = .exc c fs s := rfl
@[simp] theorem z_opt : Res.opt (some d) s = .ret d s := rfl
@[simp] theorem z_evs0 {k : List D → HS → Res} : evs Γ ([] : List (XE B)) s k = k [] s := rfl
@[simp] theorem z_evs {k : List D → HS → Res} : evs Γ (p :: ps) s k = (p.ev Γ s).bind fun d s1 => evs Γ ps s1 fun ds s2 => k (d :: ds) s2 := rfl
@[simp] theorem z_op2 {o : O2 B} : (XE.op2 o p q).ev Γ s = (p.ev Γ s).bind fun d s1 => (q.ev Γ s1).bind fun e s2 => Res.opt (o.f d e) s2 := rfl
@[simp] theorem z_blt {o : OC B} : (XE.blt o ps).ev Γ s = evs Γ ps s fun ds s1 => Res.opt (o.f ds) s1 := rfl
@[simp] theorem z_call {h : ps.length = n} : (XE.call n g ps h).ev Γ s = evs Γ ps s g := rfl
@[simp] theorem z_tup {h} : (XE.tup ps h).ev Γ s = evs Γ ps s fun ds s1 => .ret (.tup true ds) s1 := rfl
@[simp] theorem z_ofN {x : XN B} : (XE.ofN x).ev Γ s = x.ev Γ s := rfl
@[simp] theorem z_lst {h} : (XN.lst ps h).ev Γ s = evs Γ ps s fun ds s1 => .ret (.lst ds) s1 := rfl
@[simp] theorem z_ofD {x : XD B} : (XE.ofD x).ev Γ s = x.ev Γ s := rfl
@[simp] theorem z_nil : (XD.nil B).ev Γ s = .ret (.dic true []) s := rfl
def dctE (o : Option (List (Key × D))) (s : HS) : Res := match o with
  | some kvs => .ret (.dic true kvs) s
  | none => .stuck
@[simp] theorem z_dctE {kvs : List (Key × D)} : dctE (some kvs) s = .ret (.dic true kvs) s := rfl
@[simp] theorem z_dblt {o : ODc B} : (XD.blt o ps).ev Γ s = evs Γ ps s fun ds s1 => dctE (o.f ds) s1 := rfl
def ixE (hs : Hd) (d e : D) (s : HS) : Res := match d with
  | .ins c fs => match hs.at c with
    | some g => g [.ins c fs, e] s
    | none => .stuck
  | d => Res.opt (ixF d e) s
@[simp] theorem z_ix {hs : Hd} : (XE.ix hs p q).ev Γ s = (p.ev Γ s).bind fun d s1 => (q.ev Γ s1).bind fun e s2 => ixE hs d e s2 := rfl
@[simp] theorem z_ixL {hs : Hd} {ds : List D} : ixE hs (.lst ds) e s = Res.opt (ixF (.lst ds) e) s := rfl
@[simp] theorem z_ixT {hs : Hd} {ds : List D} {pl : Bool} : ixE hs (.tup pl ds) e s = Res.opt (ixF (.tup pl ds) e) s := rfl
@[simp] theorem z_ixD {hs : Hd} {ds : List (Key × D)} {pl : Bool} : ixE hs (.dic pl ds) e s = Res.opt (ixF (.dic pl ds) e) s := rfl
@[simp] theorem z_ixFD {ds : List (Key × D)} {pl : Bool} {x : Str} : ixF (.dic pl ds) (.str x) = lookK ds (.inr x) := rfl
@[simp] theorem z_ixFDi {ds : List (Key × D)} {pl : Bool} {x : Int} : ixF (.dic pl ds) (.int x) = lookK ds (.inl x) := rfl
@[simp] theorem z_ixFL {ds : List D} {x : Int} : ixF (.lst ds) (.int x) = atI ds x := rfl
@[simp] theorem z_ixFT {ds : List D} {pl : Bool} {x : Int} : ixF (.tup pl ds) (.int x) = atI ds x := rfl
@[simp] theorem z_ixI {hs : Hd} : ixE hs (.ins c fs) e s = (match hs.at c with
    | some g => g [.ins c fs, e] s
    | none => .stuck) := rfl
@[simp] theorem z_at {hs : Ats} : (XE.at hs f p).ev Γ s = (p.ev Γ s).bind fun d s1 => atE hs f d s1 := rfl
@[simp] theorem z_atE {hs : Ats} : atE hs f (.ins c fs) s = (match hs.at c with
    | some .fld => Res.opt (fs.lookup f) s
    | some (.prop g) => g [.ins c fs] s
    | none => .stuck) := rfl
@[simp] theorem z_eq {hs : Hd} {neg : Bool} : (XE.eq neg hs p q).ev Γ s = (p.ev Γ s).bind fun d s1 => (q.ev Γ s1).bind fun e s2 => eqE neg hs d e s2 := rfl
@[simp] theorem z_in {hs : Hd} {neg : Bool} : (XE.in neg hs p q).ev Γ s = (p.ev Γ s).bind fun d s1 => (q.ev Γ s1).bind fun e s2 => inE neg hs d e s2 := rfl
def hasK (kvs : List (Key × D)) (k : Key) : Bool := kvs.any fun kv => decide (kv.1 = k)
@[simp] theorem z_inD {hs : Hd} {neg : Bool} {pl : Bool} {kvs : List (Key × D)} {x : Str} : inE neg hs (.str x) (.dic pl kvs) s = .ret (.bl (if neg then !hasK kvs (.inr x) else hasK kvs (.inr x))) s := rfl
@[simp] theorem z_inL {hs : Hd} {neg : Bool} {ds : List D} : inE neg hs d (.lst ds) s = Res.opt (inF neg d (.lst ds)) s := rfl
@[simp] theorem z_inT {hs : Hd} {neg pl : Bool} {ds : List D} : inE neg hs d (.tup pl ds) s = Res.opt (inF neg d (.tup pl ds)) s := rfl
@[simp] theorem z_inI {hs : Hd} {neg : Bool} : inE neg hs d (.ins c fs) s = (match hs.at c with
    | some g => (g [.ins c fs, d] s).bindB fun b s1 => .ret (.bl (if neg then !b else b)) s1
    | none => .stuck) := rfl
@[simp] theorem z_len {hs : Hd} : (XE.len hs p).ev Γ s = (p.ev Γ s).bind fun d s1 => lenE hs d s1 := rfl
@[simp] theorem z_lenL {hs : Hd} {ds : List D} : lenE hs (.lst ds) s = .ret (.int (ds.length : Nat)) s := rfl
@[simp] theorem z_lenT {hs : Hd} {pl : Bool} {ds : List D} : lenE hs (.tup pl ds) s = .ret (.int (ds.length : Nat)) s := rfl
@[simp] theorem z_and : (XE.and p q).ev Γ s = (p.ev Γ s).bindB fun k s1 => if k = true then q.ev Γ s1 else .ret (.bl false) s1 := rfl
@[simp] theorem z_or : (XE.or p q).ev Γ s = (p.ev Γ s).bindB fun k s1 => if k = true then .ret (.bl true) s1 else q.ev Γ s1 := rfl
@[simp] theorem z_not : (XE.not p).ev Γ s = (p.ev Γ s).bindB fun k s1 => .ret (.bl (!k)) s1 := rfl
@[simp] theorem z_ifx : (XE.ifx t p q).ev Γ s = (t.ev Γ s).bindB fun k s1 => if k = true then p.ev Γ s1 else q.ev Γ s1 := rfl
@[simp] theorem z_ofE : (XT.ofE p).ev Γ s = (p.ev Γ s).tst := rfl
@[simp] theorem z_tst {k : Bool} : (Res.ret (.bl k) s).tst = .ret (.bl k) s := rfl
@[simp] theorem z_tstX : (Res.exc c fs s).tst = .exc c fs s := rfl
@[simp] theorem z_tnot : (XT.not t).ev Γ s = (t.ev Γ s).bindB fun k s1 => .ret (.bl (!k)) s1 := rfl
@[simp] theorem z_tor : (XT.or t u).ev Γ s = (t.ev Γ s).bindB fun k s1 => if k = true then .ret (.bl true) s1 else u.ev Γ s1 := rfl
@[simp] theorem z_tand : (XT.and t u).ev Γ s = (t.ev Γ s).bindB fun k s1 => if k = true then u.ev Γ s1 else .ret (.bl false) s1 := rfl
@[simp] theorem z_yes : (XT.yes B).ev Γ s = .ret (.bl true) s := rfl
@[simp] theorem z_isi {k : Kd → Option Bool} : (XE.isi k p).ev Γ s = (p.ev Γ s).bind fun d s1 => isiE k d s1 := rfl
@[simp] theorem z_get2 : (XE.get2 p q r).ev Γ s = (p.ev Γ s).bind fun d s1 => match d with
    | .dic pl kvs => (q.ev Γ s1).bind fun e s2 => (r.ev Γ s2).bind fun z s3 => getE (.dic pl kvs) e z s3
    | _ => .stuck := rfl
@[simp] theorem z_getE {pl : Bool} {kvs : List (Key × D)} {x : Str} : getE (.dic pl kvs) (.str x) d s = .ret ((lookK kvs (.inr x)).getD d) s := rfl
@[simp] theorem z_make {h1 h2} : (XE.make c n g ps h1 h2).ev Γ s = evs Γ ps s g := rfl
@[simp] theorem z_jn : (XE.jn ps).ev Γ s = (XE.jn ps).ev Γ s := rfl
-- statements
@[simp] theorem z_seq : (XS.seq a b).ev Γ s = (a.ev Γ s).bind b.ev := rfl
@[simp] theorem z_obind {k : Gm → HS → Out} : (Out.nxt Γ s).bind k = k Γ s := rfl
@[simp] theorem z_obindR {k : Gm → HS → Out} : (Out.ret d s).bind k = .ret d s := rfl
@[simp] theorem z_obindX {k : Gm → HS → Out} : (Out.exc c fs Γ s).bind k = .exc c fs Γ s := rfl
@[simp] theorem z_set : (XS.set i p).ev Γ s = (p.ev Γ s).out Γ fun d s1 => .nxt (Γ.set i (.fr d)) s1 := rfl
@[simp] theorem z_out {k : D → HS → Out} : (Res.ret d s).out Γ k = k d s := rfl
@[simp] theorem z_outX {k : D → HS → Out} : (Res.exc c fs s).out Γ k = .exc c fs Γ s := rfl
@[simp] theorem z_outB {k : Bool → HS → Out} {x : Bool} : (Res.ret (.bl x) s).outB Γ k = k x s := rfl
@[simp] theorem z_outBX {k : Bool → HS → Out} : (Res.exc c fs s).outB Γ k = .exc c fs Γ s := rfl
@[simp] theorem z_ret : (XS.ret p).ev Γ s = (p.ev Γ s).out Γ fun d s1 => .ret d s1 := rfl
@[simp] theorem z_pass : (XS.pass B).ev Γ s = .nxt Γ s := rfl
@[simp] theorem z_drop : (XS.drop p).ev Γ s = (p.ev Γ s).out Γ fun d s1 => .nxt Γ s1 := rfl
@[simp] theorem z_ite : (XS.ite t a b).ev Γ s = (t.ev Γ s).outB Γ fun k s1 => if k = true then a.ev Γ s1 else b.ev Γ s1 := rfl
@[simp] theorem z_rz : (XS.rz c p).ev Γ s = (p.ev Γ s).out Γ fun _ s1 => .exc c [] Γ s1 := rfl
@[simp] theorem z_asg {x : XG B} : (XS.asg x p).ev Γ s = (p.ev Γ s).out Γ fun d s1 => match x.as d with
    | some l => .nxt (setGm Γ l) s1
    | none => .stuck := rfl
@[simp] theorem z_fnN {Γ' : Gm} : (Out.nxt Γ' s).res = .ret .non s := rfl
@[simp] theorem z_fnR : (Out.ret d s).res = .ret d s := rfl
@[simp] theorem z_fnX {Γ' : Gm} : (Out.exc c fs Γ' s).res = .exc c fs s := rfl
@[simp] theorem z_wk : (XI.wk p).ev Γ s = (p.ev Γ s).bind fun d s1 => match walkOf d with
    | some ds => .ret (.lst ds) s1
    | none => .stuck := rfl
@[simp] theorem z_wkD {kvs : List (Key × D)} : walkOf (.dic true kvs) = some (keysD kvs) := rfl
@[simp] theorem z_wkL {ds : List D} : walkOf (.lst ds) = some ds := rfl
@[simp] theorem z_wkT {ds : List D} {pl : Bool} : walkOf (.tup pl ds) = some ds := rfl
@[simp] theorem z_frz {k : XS B} : (XS.frz i k).ev Γ s = k.ev (frzG Γ i) s := rfl
@[simp] theorem z_lc {it : XI B} {x : XG B} {vs : List Nat} : (XN.lc it x t p vs).ev Γ s = (it.ev Γ s).bindL fun ds s1 => if ds.length ≤ 100000 then lcK (lcL x.as t.ev p.ev vs (wipeG Γ vs) ds s1) else .stuck := rfl
@[simp] theorem z_dc {it : XI B} {x : XG B} {vs : List Nat} : (XD.dc it x t p q vs).ev Γ s = (it.ev Γ s).bindL fun ds s1 => if ds.length ≤ 100000 then dcK (dcL x.as t.ev p.ev q.ev vs (wipeG Γ vs) ds [] s1) else .stuck := rfl
@[simp] theorem z_lcK {ds : List D} : lcK (some (ds, s)) = .ret (.lst ds) s := rfl
@[simp] theorem z_dcK {ds : List (Key × D)} : dcK (some (ds, s)) = .ret (.dic true ds) s := rfl
theorem z_fn {k : Nat} {ds : List D} : a.fn k ds s = (a.ev (ds.map Sl.fr ++ List.replicate (k - ds.length) Sl.no) s).res := rfl
@[simp] theorem z_hd0 {hs : Hd} : Hd.at ((c, g) :: hs) c = some g := by
  unfold Hd.at
  simp
@[simp] theorem z_at0 {k : At} {hs : Ats} : Ats.at ((c, k) :: hs) c = some k := by
  unfold Ats.at
  simp
theorem z_hd1 {c' : Str} {hs : Hd} (h : ¬ c' = c) : Hd.at ((c', g) :: hs) c = Hd.at hs c := by
  unfold Hd.at
  simp [h]
theorem z_at1 {c' : Str} {k : At} {hs : Ats} (h : ¬ c' = c) : Ats.at ((c', k) :: hs) c = Ats.at hs c := by
  unfold Ats.at
  simp [h]
theorem z_for {it : XI B} {x : XG B} : (XS.for it x b).ev Γ s = (it.ev Γ s).outL Γ fun ds s1 => forL x b.ev ds Γ s1 := rfl
@[simp] theorem z_outL {k : List D → HS → Out} {ds : List D} : (Res.ret (.lst ds) s).outL Γ k = k ds s := rfl
@[simp] theorem z_gname {k : Nat} : (XG.name B k).as d = some [(k, d)] := rfl
@[simp] theorem z_setG0 : setGm Γ [] = Γ := rfl
@[simp] theorem z_setG {k : Nat} {r : List (Nat × D)} : setGm Γ ((k, d) :: r) = setGm (Γ.set k (.fr d)) r := rfl
end
section
variable {B : Bs} {Γ : Gm} {s : HS} {tt ee ek : Gm → HS → Res} {vs : List Nat}
/-- a comprehension of things that draw nothing -/
theorem lc_pure {α : Type} {as : D → Option (List (Nat × D))} {enc : α → D} {l : α → List (Nat × D)} {P : α → Bool} {f : α → D} : ∀ xs : List α,
    (∀ x ∈ xs, as (enc x) = some (l x)) → (∀ x ∈ xs, (l x).all (fun p => vs.contains p.1) = true) → (∀ x ∈ xs, tt (setGm Γ (l x)) s = .ret (.bl (P x)) s) → (∀ x ∈ xs, P x = true → ee (setGm Γ (l x)) s = .ret (f x) s) →
    lcL as tt ee vs Γ (xs.map enc) s = some ((xs.filter P).map f, s)
  | [], _, _, _, _ => rfl
  | x :: xs, h1, h2, h3, h4 => by
    have ih := lc_pure xs (fun y hy => h1 y (List.mem_cons_of_mem _ hy)) (fun y hy => h2 y (List.mem_cons_of_mem _ hy)) (fun y hy => h3 y (List.mem_cons_of_mem _ hy)) (fun y hy => h4 y (List.mem_cons_of_mem _ hy))
    have m := List.mem_cons_self (a := x) (l := xs)
    rw [List.map_cons]
    cases hp : P x with
    | false =>
      rw [lc_skip (h1 x m) (h2 x m) (by rw [h3 x m, hp]), ih, List.filter_cons_of_neg (by rw [hp]; exact Bool.false_ne_true)]
    | true =>
      rw [lc_put (h1 x m) (h2 x m) (by rw [h3 x m, hp]) (h4 x m hp) ih, List.filter_cons_of_pos hp]
      rfl
theorem dc_pure {α : Type} {as : D → Option (List (Nat × D))} {enc : α → D} {l : α → List (Nat × D)} {P : α → Bool} {k : α → Str} {f : α → D} : ∀ (xs : List α) (acc : List (Key × D)),
    (∀ x ∈ xs, as (enc x) = some (l x)) → (∀ x ∈ xs, (l x).all (fun p => vs.contains p.1) = true) → (∀ x ∈ xs, tt (setGm Γ (l x)) s = .ret (.bl (P x)) s) → (∀ x ∈ xs, P x = true → ek (setGm Γ (l x)) s = .ret (.str (k x)) s) → (∀ x ∈ xs, P x = true → ee (setGm Γ (l x)) s = .ret (f x) s) →
    (∀ x ∈ xs, P x = true → (Sum.inr (k x) : Key) ∉ acc.map (·.1)) → ((xs.filter P).map k).Nodup →
    dcL as tt ek ee vs Γ (xs.map enc) acc s = some (acc ++ (xs.filter P).map fun x => (.inr (k x), f x), s)
  | [], acc, _, _, _, _, _, _, _ => by rw [List.filter_nil, List.map_nil, List.map_nil, List.append_nil]; rfl
  | x :: xs, acc, h1, h2, h3, h4, h5, h6, h7 => by
    have m := List.mem_cons_self (a := x) (l := xs)
    rw [List.map_cons]
    cases hp : P x with
    | false =>
      rw [List.filter_cons_of_neg (by rw [hp]; exact Bool.false_ne_true)] at h7 ⊢
      have ih := dc_pure xs acc (fun y hy => h1 y (List.mem_cons_of_mem _ hy)) (fun y hy => h2 y (List.mem_cons_of_mem _ hy)) (fun y hy => h3 y (List.mem_cons_of_mem _ hy)) (fun y hy => h4 y (List.mem_cons_of_mem _ hy)) (fun y hy => h5 y (List.mem_cons_of_mem _ hy)) (fun y hy => h6 y (List.mem_cons_of_mem _ hy)) h7
      rw [dcL, h1 x m]
      dsimp only
      rw [if_pos (h2 x m), h3 x m, hp]
      exact ih
    | true =>
      rw [List.filter_cons_of_pos hp] at h7 ⊢
      rw [List.map_cons, List.nodup_cons] at h7
      have hput : putKD acc (.inr (k x)) (f x) = acc ++ [(.inr (k x), f x)] := by
        unfold putKD
        rw [if_neg]
        intro z
        rw [List.any_eq_true] at z
        obtain ⟨y, hy, hk⟩ := z
        exact h6 x m hp (List.mem_map.mpr ⟨y, hy, of_decide_eq_true hk⟩)
      have ih := dc_pure xs (acc ++ [(.inr (k x), f x)]) (fun y hy => h1 y (List.mem_cons_of_mem _ hy)) (fun y hy => h2 y (List.mem_cons_of_mem _ hy)) (fun y hy => h3 y (List.mem_cons_of_mem _ hy)) (fun y hy => h4 y (List.mem_cons_of_mem _ hy)) (fun y hy => h5 y (List.mem_cons_of_mem _ hy)) (fun y hy hpy => by
        rw [List.map_append, List.mem_append]
        rintro (z | z)
        · exact h6 y (List.mem_cons_of_mem _ hy) hpy z
        · have e : (Sum.inr (k y) : Key) = .inr (k x) := by simpa using z
          exact h7.1 (List.mem_map.mpr ⟨y, List.mem_filter.mpr ⟨hy, hpy⟩, Sum.inr.inj e⟩)) h7.2
      rw [dcL, h1 x m]
      dsimp only
      rw [if_pos (h2 x m), h3 x m, hp]
      dsimp only
      rw [h4 x m hp]
      dsimp only [kyD]
      rw [h5 x m hp]
      dsimp only
      rw [hput, ih, List.map_cons, List.append_assoc]
      rfl
end
end Dv
namespace Dv
open PySem PySem.Spec PyProof.Rows L2 Evl
section
variable {B : Bs} {Γ Γ' : Gm} {s s' : HS} {p q r : XE B} {d e : D} {ds xs ys : List D} {i j : Int} {pl pl' : Bool} {g : XG B} {gs : List (XG B)}
@[simp] theorem z_zip : (XI.zip p q).ev Γ s = (p.ev Γ s).bind fun d s1 => (q.ev Γ s1).bind fun e s2 => zipE d e s2 := rfl
@[simp] theorem z_zipL : zipE (.lst xs) (.lst ys) s = .ret (.lst (zipD xs ys)) s := rfl
@[simp] theorem z_zipT : zipE (.tup pl xs) (.tup pl' ys) s = .ret (.lst (zipD xs ys)) s := rfl
@[simp] theorem z_gtup : (XG.tup gs).as (.tup pl ds) = ass gs ds := rfl
@[simp] theorem z_ass0 : ass ([] : List (XG B)) [] = some [] := rfl
@[simp] theorem z_ass {k : Nat} : ass (XG.name B k :: gs) (d :: ds) = (ass gs ds).map fun m => (k, d) :: m := by
  show (match (some [(k, d)] : Option (List (Nat × D))) with
    | some l => match ass gs ds with
      | some m => some (l ++ m)
      | none => none
    | none => none) = _
  cases ass gs ds with
  | none => rfl
  | some m => rfl
@[simp] theorem z_rng : (XI.range1 p).ev Γ s = (p.ev Γ s).bind fun d s1 => match d with
    | .int n => if -(2 ^ 62) ≤ n ∧ n < 2 ^ 62 then .ret (.lst (rangeD 0 n)) s1 else .stuck
    | _ => .stuck := rfl
theorem f_cat (h : xs.length + ys.length ≤ 100000) : (o_add B).f (.lst xs) (.lst ys) = some (.lst (xs ++ ys)) := by
  show (match (if xs.length + ys.length ≤ 100000 then some (D.lst (xs ++ ys)) else none) with
    | some z => some z
    | none => (o_catT B).f (.lst xs) (.lst ys)) = _
  rw [if_pos h]
theorem f_catT (h : xs.length + ys.length ≤ 100000) : (o_add B).f (.tup pl xs) (.tup pl' ys) = some (.tup false (xs ++ ys)) := by
  show (if xs.length + ys.length ≤ 100000 then some (D.tup false (xs ++ ys)) else none) = _
  rw [if_pos h]
theorem f_rep (h1 : -(2 ^ 63) ≤ i) (h2 : i < 2 ^ 63) (h3 : xs.length * i.toNat ≤ 100000) : (o_mul B).f (.lst xs) (.int i) = some (.lst (List.replicate i.toNat xs).flatten) := by
  show (if -(2 ^ 63) ≤ i ∧ i < 2 ^ 63 ∧ xs.length * i.toNat ≤ 100000 then some (D.lst (List.replicate i.toNat xs).flatten) else none) = _
  rw [if_pos ⟨h1, h2, h3⟩]
theorem intsD_map : ∀ ns : List Int, intsD (ns.map D.int) = some ns
  | [] => rfl
  | n :: r => by
    show (intsD (r.map D.int)).map (n :: ·) = _
    rw [intsD_map r]
    rfl
@[simp] theorem f_sum {ns : List Int} : (o_sum B).f [.lst (ns.map D.int)] = some (.int ns.sum) := by
  show (intsD (ns.map D.int)).bind _ = _
  rw [intsD_map]
  rfl
theorem zipD_map {α β : Type} {f : α → D} {k : β → D} : ∀ (as : List α) (bs : List β), zipD (as.map f) (bs.map k) = (as.zip bs).map fun p => .tup false [f p.1, k p.2]
  | [], _ => by simp [zipD]
  | _ :: _, [] => by simp [zipD]
  | a :: as, b :: bs => by
    have ih := zipD_map (f := f) (k := k) as bs
    unfold zipD at *
    simp [ih]
@[simp] theorem z_for0 {b : Gm → HS → Out} : forL g b [] Γ s = .nxt Γ s := rfl
end
end Dv

set_option Elab.async false
set_option linter.all false
set_option maxRecDepth 100000
/-! # Defs with defaults, called with all they take -/
namespace Dv
open PySem PySem.Spec PyProof.Rows L2 Evl
structure FunU (K : PySem.W.Frag) (x qual : Str) (st : Stmt) (f : Addr) (fd : FuncData) (n : Nat) : Prop where
  ex : ∃ dvs : List V, dvs.length = n ∧ dvs ≠ [] ∧ FunD K x qual (defArgs st) (defBody st) (defScope st) dvs [] f fd
section
variable {P : Program} {w : World} {mg : Str → Option Value} {base : Heap}
theorem FunU.okX {K : PySem.W.Frag} {x qual : Str} {st : Stmt} {f : Addr} {fd : FuncData} {m : Nat} (F : FunU K x qual st f fd m) {CX : CXT} {N ps : List Str} {k : Nat} {sp : Sp} (S : FnScope N ps (defScope st)) (hl : ∀ (vs : List V) (H : Hp) (Q : VK) (E : XK), sp vs H Q E → vs.length = ps.length)
    (hb : ∀ (cdv : Value) (A : Around) (outer : List Env) (s : Shared) (H : Hp) (vs : List V) (Q : VK) (E : XK), Room k (A.deeper (envOfC qual (defScope st) s.heap.objs.size f cdv)) → sp vs H Q E →
      ∃ t, PSs (cxOf CX P w K mg base N qual (defScope st) f cdv A outer s H E) (defBody st) t ∧ t { nx := fun _ H' => Q V.non H', rt := Q } (L2.start N vs) H) :
    FnOk P w K mg base CX (k + 1) f fd ps sp := by
  obtain ⟨dvs, _, _, F⟩ := F.ex
  exact F.ok S hl hb
theorem init_okU {B : Bs} {x qual : Str} {st : Stmt} {f : Addr} {fd : FuncData} {N ps : List Str} {k n m : Nat} {c : Str} {g : Gf} {p : XS B} (Fn : FunU B.K x qual st f fd m) (S : FnScope N ps (defScope st)) (hn : ps.length = n + 1) (hg : g = p.ini c N.length)
    (hb : ∀ (cdv : Value) (A : Around) (outer : List Env) (s : Shared) (H : Hp) (E : XK), Room k (A.deeper (envOfC qual (defScope st) s.heap.objs.size f cdv)) →
      PSs (cxOf (L2.CX P w) P w B.K mg base N qual (defScope st) f cdv A outer s H E) (defBody st) (p.ts fun cls d _ H => E cls d H)) :
    FnOk P w B.K mg base (L2.CX P w) (k + 1) f fd ps (spI B c n g) := by
  subst hg
  exact Fn.okX S (fun vs H Q E h => by rw [spI_len h, hn]) fun cdv A outer s H vs Q E hr h => ⟨_, hb cdv A outer s H E hr, ini_ok h⟩
theorem FunU.bindsU {K : PySem.W.Frag} {x qual : Str} {st : Stmt} {f : Addr} {fd : FuncData} {m : Nat} (F : FunU K x qual st f fd m) {ps : List Str}
    (h : ∀ (T : Addr) (kV doc pm : Value) (an : Option Addr) (cdv ct : Value) (us its : List Value), us.length = ps.length → its.length = m →
      ∃ k, bindArgs (PySem.W.fnOf x qual (defArgs st) (defBody st) (defScope st) (.ref T) kV doc pm an cdv ct) ⟨us, []⟩ = seqItems? (.ref T) >>= k ∧ k (some its.toArray) = pure (ps.zip us)) : L2.Binds K fd ps [] := by
  obtain ⟨dvs, hm, hne, F⟩ := F.ex
  obtain ⟨ds, hv, hb⟩ := F.binds1 (ps := ps) ps.length dvs.length hne (by omega) fun T kV doc pm an cdv ct us its h1 h2 => by
    obtain ⟨k, e1, e2⟩ := h T kV doc pm an cdv ct us its h1 (h2.trans hm)
    refine ⟨k, e1, ?_⟩
    rw [e2, List.drop_of_length_le (by omega), List.append_nil]
  rw [List.drop_length] at hv
  cases hv
  exact hb
theorem fun_mkU {K : PySem.W.Frag} {x qual : Str} {st : Stmt} {f T : Addr} {oc oT : Value} {od an dT : Option Addr} {osl sT : Array (Option Value)} {kV doc pm cdv ct : Value} {its : List Value} {nT : _} {dvs : List V}
    (l : K.lookup f = some ⟨oc, od, .func (PySem.W.fnOf x qual (defArgs st) (defBody st) (defScope st) (.ref T) kV doc pm an cdv ct), osl⟩) (c : PySem.W.codeIn K cdv qual = true) (kp : PySem.W.keepIn K (.ref f) = true)
    (lT : K.lookup T = some ⟨oT, dT, .seq its.toArray nT, sT⟩) (hne : dvs ≠ []) (hv : Vals dvs its) :
    FunU K x qual st f (PySem.W.fnOf x qual (defArgs st) (defBody st) (defScope st) (.ref T) kV doc pm an cdv ct) dvs.length :=
  ⟨dvs, rfl, hne, ⟨⟨_, _, _, _, _, _, _, _, _, _, rfl, l, c, .inr ⟨hne, T, _, its, nT, rfl, lT, rfl, hv⟩, .inl rfl⟩, kp⟩⟩
theorem fn_okU {B : Bs} {x qual : Str} {st : Stmt} {f : Addr} {fd : FuncData} {N ps : List Str} {k m : Nat} {g : Gf} {p : XS B} (Fn : FunU B.K x qual st f fd m) (S : FnScope N ps (defScope st)) (hg : ∀ ds s, ds.length = ps.length → g ds s = p.fn N.length ds s)
    (hb : ∀ (cdv : Value) (A : Around) (outer : List Env) (s : Shared) (H : Hp) (E : XK), Room k (A.deeper (envOfC qual (defScope st) s.heap.objs.size f cdv)) →
      PSs (cxOf (L2.CX P w) P w B.K mg base N qual (defScope st) f cdv A outer s H E) (defBody st) (p.ts fun cls d _ H => E cls d H)) :
    FnOk P w B.K mg base (L2.CX P w) (k + 1) f fd ps (spD B ps.length g) :=
  Fn.okX S (fun vs H Q E h => spD_len h) fun cdv A outer s H vs Q E hr h => ⟨_, hb cdv A outer s H E hr, body_ok hg h⟩
end
end Dv

set_option Elab.async false
set_option linter.all false
set_option maxRecDepth 100000
/-! # A dict that may be locked already; a, b, c = x, y, {} -/
namespace Dv
open PySem PySem.Spec PyProof.Rows L2 Evl
def tLkM (i : Nat) (t : TS) : TS := fun D σ H => t D σ H ∨ tLkS i t D σ H
theorem ps_lkm {X : Cx} {st : Stmt} {t : TS} (i : Nat) (h : PS X st t) : PS X st (tLkM i t) := ⟨fun pins s σ H D I hw => hw.elim (fun z => h.run pins s σ H D I z) fun z => (ps_lk i h).run pins s σ H D I z⟩
/-- from here on the dict of slot i is no more changed, if it still could be -/
def XS.frzM {B : Bs} (i : Nat) (p : XS B) : XS B where
  ts := fun Wx => tLkM i (p.ts Wx)
  ev := fun Γ s => match (Γ[i]? : Option Sl) with
    | some (.dco kvs) => p.ev (Γ.set i (.fr (.dic true kvs))) s
    | _ => p.ev Γ s
  ok := fun {w Z F H σ Γ s} Wx D' g => by
    cases hi : (Γ[i]? : Option Sl) with
    | none => exact (p.ok Wx D' g).imp fun z => .inl z
    | some t =>
      cases t with
      | dco kvs =>
        have h := (XS.frzD i p).ok Wx D' g
        unfold XS.frzD at h
        dsimp only at h
        rw [hi] at h
        exact h.imp fun z => .inr z
      | no => exact (p.ok Wx D' g).imp fun z => .inl z
      | fr d => exact (p.ok Wx D' g).imp fun z => .inl z
      | lo ds => exact (p.ok Wx D' g).imp fun z => .inl z
      | io c fs => exact (p.ok Wx D' g).imp fun z => .inl z
/-- a, b, c = x, y, {} -/
def XS.par3E {B : Bs} (i j l : Nat) (p q : XE B) : XS B where
  ts := fun Wx => tPar3 i j l (tCons (p.te Wx) (tCons (q.te Wx) (tCons tDNewK tNil)))
  ev := fun Γ s => (p.ev Γ s).out Γ fun d s1 => (q.ev Γ s1).out Γ fun e s2 => .nxt (((Γ.set i (.fr d)).set j (.fr e)).set l (.dco [])) s2
  ok := fun {w Z F H σ Γ s} Wx D' g => by
    refine (p.ok Wx g.fh g.st g.sl).stm g (u := fun v H1 => q.te Wx σ H1 fun u H2 => ∀ b, H2 b = none → ∃ x y z, [v, u, V.ref b] = [x, y, z] ∧ D'.nx (((σ.set i (some x)).set j (some y)).set l (some z)) (upd H2 b (.dK []))) fun d s1 v F1 H1 _ a1 g1 r1 => ?_
    refine (q.ok Wx g1.fh g1.st g1.sl).stm g1 (u := fun u H2 => ∀ b, H2 b = none → ∃ x y z, [v, u, V.ref b] = [x, y, z] ∧ D'.nx (((σ.set i (some x)).set j (some y)).set l (some z)) (upd H2 b (.dK []))) fun e s2 u F2 H2 _ a2 g2 r2 => ?_
    refine fun k b hb => ⟨v, u, .ref b, rfl, k F2 _ _ (Ex.refl F2) ?_⟩
    have fb : F2 b = none := fresh_back g2.fh hb
    have ob : Off w b := Off.fresh g2.st hb
    have s1' : Step w F2 H2 F2 (upd H2 b (.dK [])) := Step.newO g2.fh hb
    have g3 := g2.step s1' (g2.st.newO hb)
    have zb : Z b = none := by
      cases hz : Z b with
      | none => rfl
      | some o => rw [(g2.zz b o hz).2.1] at hb; cases hb
    have g4 := (g3.set (i := i) ((r1.mono a2.ff).mono (Ex.refl F2))).set (i := j) (r2.mono (Ex.refl F2))
    refine g4.setO (i := l) (t := .dco []) (fun _ _ z => nomatch z) ⟨b, [], rfl, fb, ob, upd_same, repK_nil.mpr rfl⟩ zb fun n x e' ho => ?_
    by_cases hjn : j = n
    · subst hjn
      rw [List.getElem?_set, if_pos rfl] at e'
      split at e'
      · cases e'; cases ho
      · cases e'
    · rw [List.getElem?_set_ne hjn] at e' ⊢
      by_cases hin : i = n
      · subst hin
        rw [List.getElem?_set, if_pos rfl] at e'
        split at e'
        · cases e'; cases ho
        · cases e'
      · rw [List.getElem?_set_ne hin] at e' ⊢
        exact g2.old hb n x e' ho
/-- a, b, c = x, y, {} by way of a tuple -/
def XS.asgE {B : Bs} (i j l : Nat) (p q : XE B) : XS B where
  ts := fun Wx => tAsg (tTupP (tCons (p.te Wx) (tCons (q.te Wx) (tCons tDNewK tNil)))) (gTup B.K 3 (gCons (gName i) (gCons (gName j) (gCons (gName l) gNil))))
  ev := fun Γ s => (p.ev Γ s).out Γ fun d s1 => (q.ev Γ s1).out Γ fun e s2 => .nxt (((Γ.set i (.fr d)).set j (.fr e)).set l (.dco [])) s2
  ok := fun {w Z F H σ Γ s} Wx D' g => by
    refine (p.ok Wx g.fh g.st g.sl).stm g (u := fun v H1 => q.te Wx σ H1 fun u H2 => ∀ b, H2 b = none → ([v, u, V.ref b].length ≤ sizeLine ∧ ∀ (p : Addr) (ob : Obj), (upd H2 b (.dK [])) p = none → ob.dict = none → (gTup B.K 3 (gCons (gName i) (gCons (gName j) (gCons (gName l) gNil)))) (.ref p) σ (upd (upd H2 b (.dK [])) p (.frz ob (.tup [v, u, V.ref b]))) D'.nx)) fun d s1 v F1 H1 _ a1 g1 r1 => ?_
    refine (q.ok Wx g1.fh g1.st g1.sl).stm g1 (u := fun u H2 => ∀ b, H2 b = none → ([v, u, V.ref b].length ≤ sizeLine ∧ ∀ (p : Addr) (ob : Obj), (upd H2 b (.dK [])) p = none → ob.dict = none → (gTup B.K 3 (gCons (gName i) (gCons (gName j) (gCons (gName l) gNil)))) (.ref p) σ (upd (upd H2 b (.dK [])) p (.frz ob (.tup [v, u, V.ref b]))) D'.nx)) fun e s2 u F2 H2 _ a2 g2 r2 => ?_
    refine fun k b hb => ⟨sz_of (by show 3 ≤ 100000; decide), fun p ob hp hod => ⟨p, [v, u, .ref b], rfl, .inl (.inr ⟨ob, upd_same⟩), rfl, v, _, rfl, u, _, rfl, .ref b, _, rfl, rfl, k F2 _ _ (Ex.refl F2) ?_⟩⟩
    have hbp : b ≠ p := fun z => by subst z; rw [upd_same] at hp; cases hp
    have fb : F2 b = none := fresh_back g2.fh hb
    have ob' : Off w b := Off.fresh g2.st hb
    have s1' : Step w F2 H2 F2 (upd H2 b (.dK [])) := Step.newO g2.fh hb
    have g3 := g2.step s1' (g2.st.newO hb)
    have s2' : Step w F2 (upd H2 b (.dK [])) F2 (upd (upd H2 b (.dK [])) p (.frz ob (.tup [v, u, V.ref b]))) := Step.newO g3.fh hp
    have g3' := g3.step s2' (g3.st.newO hp)
    have zb : Z b = none := by
      cases hz : Z b with
      | none => rfl
      | some o => rw [(g2.zz b o hz).2.1] at hb; cases hb
    have g4 := (g3'.set (i := i) ((r1.mono a2.ff).mono (Ex.refl F2))).set (i := j) (r2.mono (Ex.refl F2))
    refine g4.setO (i := l) (t := .dco []) (fun _ _ z => nomatch z) ⟨b, [], rfl, fb, ob', by rw [upd_ne hbp, upd_same], repK_nil.mpr rfl⟩ zb fun n x e' ho => ?_
    by_cases hjn : j = n
    · subst hjn
      rw [List.getElem?_set, if_pos rfl] at e'
      split at e'
      · cases e'; cases ho
      · cases e'
    · rw [List.getElem?_set_ne hjn] at e' ⊢
      by_cases hin : i = n
      · subst hin
        rw [List.getElem?_set, if_pos rfl] at e'
        split at e'
        · cases e'; cases ho
        · cases e'
      · rw [List.getElem?_set_ne hin] at e' ⊢
        exact g2.old hb n x e' ho
end Dv

set_option Elab.async false
set_option linter.all false
set_option maxRecDepth 100000
/-! # The program's defs as packages -/
namespace Lo
open PySem PySem.Spec PyProof.Rows L2 Evl Dv
def isi_bool : Kd → Option Bool
  | .bl => some true
  | .ins _ => none
  | _ => some false
def isi_Catalog : Kd → Option Bool
  | .ins c => if c = "Catalog" then some true else none
  | _ => some false
def isi_dict : Kd → Option Bool
  | .dic => some true
  | .ins _ => none
  | _ => some false
def isi_tuple_list : Kd → Option Bool
  | .tup => some true
  | .lst => some true
  | .ins _ => none
  | _ => some false
def isi_list : Kd → Option Bool
  | .lst => some true
  | .ins _ => none
  | _ => some false
def isi_str : Kd → Option Bool
  | .str => some true
  | .ins _ => none
  | _ => some false
def isi_int : Kd → Option Bool
  | .int => some true
  | .bl => some true
  | .ins _ => none
  | _ => some false
def p__law_next (B : Bs) : XS B := (.seq (.set 2 (.ix [] (.hcat B 0) (.op2 (o_modI B) (.blt (o_int B) [(.h2 B 0)]) (.blt (o_max2 B) [(.int B 1), (.hlen B 0)])))) (.seq (.ite (.ofE (.op2 (o_geI B) (.var B 2) (.op2 (o_powI B) (.int B 10) (.int B 18)))) (.seq (.hc 0 (.op2 (o_modI B) (.blt (o_int B) [(.h2 B 0)]) (.hlen B 0)) (.op2 (o_divI B) (.var B 2) (.var B 1))) (.ret (.op2 (o_modI B) (.blt (o_int B) [(.var B 2)]) (.var B 1)))) (.pass B)) (.seq (.h0 0 (.op2 (o_modI B) (.blt (o_int B) [(.op2 (o_add B) (.op2 (o_add B) (.op2 (o_mul B) (.h0 B 0) (.int B 48271)) (.op2 (o_mul B) (.var B 2) (.int B 69621))) (.int B 11))]) (.int B 2147483647))) (.seq (.h2 0 (.op2 (o_add B) (.h2 B 0) (.int B 1))) (.ret (.op2 (o_modI B) (.blt (o_int B) [(.op2 (o_divI B) (.h0 B 0) (.int B 7))]) (.var B 1)))))))
def g__law_next (B : Bs) : Gf := (p__law_next B).fn 3
def p__law_features (B : Bs) : XS B := (.seq (.setN 2 (.lst [])) (.seq (.for (.range1 (.op2 (o_add B) (.int B 1) (.call 2 (g__law_next B) [(.var B 0), (.var B 1)] rfl))) (.name B 3) (.seq (.setN 4 (.lst [(.str B "blue"), (.str B "gray"), (.str B "pink"), (.str B "red"), (.str B "tan")])) (.seq (.while 1000 (.view (.ofE (.op2 (o_gtI B) (.len [] (.var B 4)) (.op2 (o_add B) (.int B 2) (.call 2 (g__law_next B) [(.var B 0), (.int B 3)] rfl))))) (.popAt 4 (.view (.call 2 (g__law_next B) [(.var B 0), (.len [] (.var B 4))] rfl)))) (.frz 4 (.app 2 (.tup [(.ix [] (.ofN (.lst [(.str B "hue"), (.str B "size"), (.str B "age"), (.str B "kind"), (.str B "lid"), (.str B "bag")])) (.var B 3)), (.blt (o_tupA B) [(.var B 4)])])))))) (.frz 2 (.ret (.blt (o_tupA B) [(.var B 2)])))))
def g__law_features (B : Bs) : Gf := (p__law_features B).fn 5
def p__law_some (B : Bs) : XS B := (.seq (.ite (.ofE (.eq false [] (.call 2 (g__law_next B) [(.var B 0), (.int B 3)] rfl) (.int B 0))) (.ret (.var B 1)) (.pass B)) (.seq (.set 2 (.ofN (.lc (.wk (.var B 1)) (.name B 3) (.ofE (.eq false [] (.call 2 (g__law_next B) [(.var B 0), (.int B 2)] rfl) (.int B 0))) (.var B 3) [3]))) (.ret (.ifx (.ofE (.eq true [] (.var B 2) (.ofN (.lst [])))) (.blt (o_tupA B) [(.var B 2)]) (.tup [(.ix [] (.var B 1) (.call 2 (g__law_next B) [(.var B 0), (.len [] (.var B 1))] rfl))])))))
def g__law_some (B : Bs) : Gf := (p__law_some B).fn 4
def p__law_sets (B : Bs) : XS B := (.ret (.ofD (.blt (od_dict B) [(.ofN (.lc (.wk (.var B 1)) (.tup [(.name B 2), (.name B 3)]) (.yes B) (.tup [(.var B 2), (.call 2 (g__law_some B) [(.var B 0), (.var B 3)] rfl)]) [2, 3]))])))
def g__law_sets (B : Bs) : Gf := (p__law_sets B).fn 4
def p__law_drawn (B : Bs) : XS B := (.seq (.par3D 3 4 5 (.call 2 (g__law_features B) [(.var B 0), (.int B 3)] rfl)) (.seq (.for (.wk (.sli (.ofN (.lst [(.str B "bag"), (.str B "cap"), (.str B "key"), (.str B "mug"), (.str B "pen"), (.str B "urn")])) none (some (.call 2 (g__law_next B) [(.var B 0), (.op2 (o_add B) (.var B 1) (.int B 1))] rfl)))) (.name B 6) (.dput 4 (.var B 6) (.tup [(.call 2 (g__law_sets B) [(.var B 0), (.var B 3)] rfl), (.op2 (o_add B) (.int B 2) (.call 2 (g__law_next B) [(.var B 0), (.int B 9)] rfl))]))) (.seq (.for (.wk (.sli (.ofN (.lst [(.str B "ann"), (.str B "bob"), (.str B "cy"), (.str B "dot"), (.str B "eve"), (.str B "fay")])) none (some (.call 2 (g__law_next B) [(.var B 0), (.op2 (o_add B) (.var B 2) (.int B 1))] rfl)))) (.name B 6) (.seq (.set 7 (.ix [] (.ofN (.lst [(.int B 0), (.int B 0), (.int B 1), (.int B 2)])) (.call 2 (g__law_next B) [(.var B 0), (.int B 4)] rfl))) (.dput 5 (.var B 6) (.tup [(.call 2 (g__law_sets B) [(.var B 0), (.var B 3)] rfl), (.call 2 (g__law_next B) [(.var B 0), (.int B 9)] rfl), (.var B 7), (.op2 (o_add B) (.int B 1) (.call 2 (g__law_next B) [(.var B 0), (.ix [] (.ofN (.lst [(.int B 3), (.int B 9)])) (.call 2 (g__law_next B) [(.var B 0), (.int B 2)] rfl))] rfl))])))) (.frzD 5 (.frzD 4 (.ret (.tup [(.var B 3), (.var B 4), (.var B 5)])))))))
def g__law_drawn (B : Bs) : Gf := (p__law_drawn B).fn 8
def p_is_word (B : Bs) : XS B := (.ret ((.and (.chain (o_le B) (o_le B) (.int B 1) (.len [] (.var B 0)) (.int B 8)) (.blt (o_all B) [(.ofN (.lc (.wk (.var B 0)) (.name B 1) (.yes B) (.chain (o_le B) (o_le B) (.str B "a") (.var B 1) (.str B "z")) [1]))]))))
def g_is_word (B : Bs) : Gf := (p_is_word B).fn 2
def p_ascends (B : Bs) : XS B := (.ret (.blt (o_all B) [(.ofN (.lc (.zip (.var B 0) (.sli (.var B 0) (some (.int B 1)) none)) (.tup [(.name B 1), (.name B 2)]) (.yes B) (.op2 (o_lt B) (.var B 1) (.var B 2)) [1, 2]))]))
def g_ascends (B : Bs) : Gf := (p_ascends B).fn 3
def p_is_feature (B : Bs) : XS B := (.seq (.ite (.not (.ofE (.chain (o_le B) (o_le B) (.int B 2) (.len [] (.var B 1)) (.int B 8)))) (.ret (.bl B false)) (.pass B)) (.ret ((.and (.call 1 (g_is_word B) [(.var B 0)] rfl) (.and (.call 1 (g_ascends B) [(.var B 1)] rfl) (.blt (o_all B) [(.ofN (.lc (.wk (.var B 1)) (.name B 2) (.yes B) (.call 1 (g_is_word B) [(.var B 2)] rfl) [2]))]))))))
def g_is_feature (B : Bs) : Gf := (p_is_feature B).fn 3
def p_Catalog__init__ (B : Bs) : XS B := (.seq (.ite (.ofE (.eq false [] (.len [] (.var B 1)) (.int B 0))) (.rf "InvalidCatalog" ["index"] (by decide) [(.int B 0)] rfl (Nat.le_of_ble_eq_true rfl)) (.pass B)) (.seq (.setN 2 (.lst [])) (.seq (.for (.enu (.var B 1)) (.tup [(.name B 3), (.tup [(.name B 4), (.name B 5)])]) (.seq (.ite (.view ((.or (.ofE (.eq false [] (.var B 3) (.int B 6))) (.or (.ofE (.in false [] (.var B 4) (.var B 2))) (.not (.ofE (.call 2 (g_is_feature B) [(.var B 4), (.var B 5)] rfl))))))) (.rf "InvalidCatalog" ["index"] (by decide) [(.var B 3)] rfl (Nat.le_of_ble_eq_true rfl)) (.pass B)) (.app 2 (.var B 4)))) (.seq (.setF "Catalog" "_features" 0 (.var B 1)) (.setF "Catalog" "_values" 0 (.ofD (.blt (od_dict B) [(.var B 1)])))))))
def g_Catalog__init__ (B : Bs) : Gf := (p_Catalog__init__ B).ini "Catalog" 6
def p_in_range (B : Bs) : XS B := (.ret ((.and (.not (.isi isi_bool (.var B 0))) (.chain (o_le B) (o_le B) (.var B 1) (.var B 0) (.var B 2)))))
def g_in_range (B : Bs) : Gf := (p_in_range B).fn 3
def p_Thing__init__ (B : Bs) : XS B := (.seq (.ite (.not (.ofE (.call 3 (g_in_range B) [(.var B 2), (.int B 0), (.int B 1000000000000000000)] rfl))) (.rf "InvalidEntry" ["part"] (by decide) [(.str B "day")] rfl (Nat.le_of_ble_eq_true rfl)) (.pass B)) (.seq (.setF "Thing" "_note" 0 (.var B 1)) (.setF "Thing" "_day" 0 (.var B 2))))
def g_Thing__init__ (B : Bs) : Gf := (p_Thing__init__ B).ini "Thing" 3
def p_Catalog__contains__ (B : Bs) : XS B := (.ret (.in false [] (.var B 1) (.at [("Catalog", .fld)] "_values" (.var B 0))))
def g_Catalog__contains__ (B : Bs) : Gf := (p_Catalog__contains__ B).fn 2
def p_Catalog_features (B : Bs) : XS B := (.ret (.at [("Catalog", .fld)] "_features" (.var B 0)))
def g_Catalog_features (B : Bs) : Gf := (p_Catalog_features B).fn 1
def p_is_choice (B : Bs) : XS B := (.ret ((.and (.op2 (o_gtI B) (.len [] (.var B 0)) (.int B 0)) (.and (.call 1 (g_ascends B) [(.var B 0)] rfl) (.blt (o_all B) [(.ofN (.lc (.wk (.var B 0)) (.name B 2) (.yes B) (.in false [] (.var B 2) (.var B 1)) [2]))])))))
def g_is_choice (B : Bs) : Gf := (p_is_choice B).fn 3
def p_Note__init__ (B : Bs) : XS B := (.seq (.set 3 (.ofN (.lc (.wk (.var B 2)) (.name B 4) (.ofE (.in true [("Catalog", g_Catalog__contains__ B)] (.var B 4) (.var B 1))) (.var B 4) [4]))) (.seq (.ite (.ofE (.op2 (o_gtI B) (.len [] (.var B 3)) (.int B 0))) (.nv B) (.pass B)) (.seq (.for (.wk (.at [("Catalog", .prop (g_Catalog_features B))] "features" (.var B 1))) (.tup [(.name B 4), (.name B 5)]) (.ite ((.and (.ofE (.in false [("Catalog", g_Catalog__contains__ B)] (.var B 4) (.var B 2))) (.not (.ofE (.call 2 (g_is_choice B) [(.ix [] (.var B 2) (.var B 4)), (.var B 5)] rfl))))) (.rf "InvalidNote" ["feature"] (by decide) [(.var B 4)] rfl (Nat.le_of_ble_eq_true rfl)) (.pass B))) (.seq (.setF "Note" "_catalog" 0 (.var B 1)) (.setF "Note" "_values" 0 (.ofD (.dc (.wk (.at [("Catalog", .prop (g_Catalog_features B))] "features" (.var B 1))) (.tup [(.name B 4), (.name B 5)]) (.yes B) (.var B 4) (.get2 (.var B 2) (.var B 4) (.var B 5)) [4, 5])))))))
def g_Note__init__ (B : Bs) : Gf := (p_Note__init__ B).ini "Note" 6
def p__law_note (B : Bs) : XS B := (.ret (.make "Note" 2 (g_Note__init__ B) [(.var B 0), (.ofD (.blt (od_dict B) [(.ofN (.lc (.wk (.var B 1)) (.tup [(.name B 3), (.name B 4)]) (.ofE (.eq true [] (.ix [] (.var B 2) (.var B 3)) (.var B 4))) (.tup [(.var B 3), (.ix [] (.var B 2) (.var B 3))]) [3, 4]))]))] rfl (XS.ini_ins)))
def g__law_note (B : Bs) : Gf := (p__law_note B).fn 5
def p_Claim__init__ (B : Bs) : XS B := (.seq (.ite (.not (.ofE (.call 3 (g_in_range B) [(.var B 2), (.int B 0), (.int B 1000000000000000000)] rfl))) (.rf "InvalidEntry" ["part"] (by decide) [(.str B "day")] rfl (Nat.le_of_ble_eq_true rfl)) (.pass B)) (.seq (.ite (.not (.ofE (.call 3 (g_in_range B) [(.var B 3), (.int B 0), (.int B 2)] rfl))) (.rf "InvalidEntry" ["part"] (by decide) [(.str B "slips")] rfl (Nat.le_of_ble_eq_true rfl)) (.pass B)) (.seq (.ite (.not (.ofE (.call 3 (g_in_range B) [(.var B 4), (.int B 1), (.int B 1000000000)] rfl))) (.rf "InvalidEntry" ["part"] (by decide) [(.str B "worth")] rfl (Nat.le_of_ble_eq_true rfl)) (.pass B)) (.seq (.setF "Claim" "_note" 0 (.var B 1)) (.seq (.setF "Claim" "_day" 0 (.var B 2)) (.seq (.setF "Claim" "_slips" 0 (.var B 3)) (.setF "Claim" "_worth" 0 (.var B 4))))))))
def g_Claim__init__ (B : Bs) : Gf := (p_Claim__init__ B).ini "Claim" 5
def p_Claim_note (B : Bs) : XS B := (.ret (.at [("Claim", .fld)] "_note" (.var B 0)))
def g_Claim_note (B : Bs) : Gf := (p_Claim_note B).fn 1
def p_Thing_note (B : Bs) : XS B := (.ret (.at [("Thing", .fld)] "_note" (.var B 0)))
def g_Thing_note (B : Bs) : Gf := (p_Thing_note B).fn 1
def p_Note_catalog (B : Bs) : XS B := (.ret (.at [("Note", .fld)] "_catalog" (.var B 0)))
def g_Note_catalog (B : Bs) : Gf := (p_Note_catalog B).fn 1
def p_Catalog__eq__ (B : Bs) : XS B := (.ret ((.and (.isi isi_Catalog (.var B 1)) (.eq false [] (.at [("Catalog", .fld)] "_features" (.var B 0)) (.at [("Catalog", .fld)] "_features" (.var B 1))))))
def g_Catalog__eq__ (B : Bs) : Gf := (p_Catalog__eq__ B).fn 2
def p_check_entries (B : Bs) : XS B := (.seq (.set 4 (.blt (o_sorted B) [(.var B 2)])) (.seq (.for (.wk (.var B 4)) (.name B 5) (.ite ((.or (.not (.ofE (.call 1 (g_is_word B) [(.var B 5)] rfl))) (.or (.ofE (.eq true [("Catalog", g_Catalog__eq__ B)] (.at [("Note", .prop (g_Note_catalog B))] "catalog" (.at [("Thing", .prop (g_Thing_note B)), ("Claim", .prop (g_Claim_note B))] "note" (.ix [] (.var B 2) (.var B 5)))) (.var B 1))) (.ofE (.in false [] (.var B 5) (.var B 3)))))) (.rf "InvalidOffice" ["part", "label"] (by decide) [(.var B 0), (.var B 5)] rfl (Nat.le_of_ble_eq_true rfl)) (.pass B))) (.ite (.ofE (.op2 (o_gtI B) (.len [] (.var B 4)) (.int B 8))) (.rf "InvalidOffice" ["part", "label"] (by decide) [(.var B 0), (.ix [] (.var B 4) (.int B 8))] rfl (Nat.le_of_ble_eq_true rfl)) (.pass B))))
def g_check_entries (B : Bs) : Gf := (p_check_entries B).fn 6
def p_in_order (B : Bs) : XS B := (.ret (.ofD (.dc (.wk (.blt (o_sorted B) [(.var B 0)])) (.name B 1) (.yes B) (.var B 1) (.ix [] (.var B 0) (.var B 1)) [1])))
def g_in_order (B : Bs) : Gf := (p_in_order B).fn 2
def p_Office__init__ (B : Bs) : XS B := (.seq (.drop (.call 4 (g_check_entries B) [(.str B "things"), (.var B 1), (.var B 2), (.ofD (.nil B))] rfl)) (.seq (.drop (.call 4 (g_check_entries B) [(.str B "claims"), (.var B 1), (.var B 3), (.var B 2)] rfl)) (.seq (.setF "Office" "_catalog" 0 (.var B 1)) (.seq (.setF "Office" "_things" 0 (.call 1 (g_in_order B) [(.var B 2)] rfl)) (.setF "Office" "_claims" 0 (.call 1 (g_in_order B) [(.var B 3)] rfl))))))
def g_Office__init__ (B : Bs) : Gf := (p_Office__init__ B).ini "Office" 4
def p__law_office (B : Bs) : XS B := (.seq (.asg (.tup [(.name B 1), (.name B 2), (.name B 3)]) (.var B 0)) (.seq (.par3D 4 5 6 (.make "Catalog" 1 (g_Catalog__init__ B) [(.var B 1)] rfl (XS.ini_ins))) (.seq (.for (.wk (.var B 2)) (.name B 7) (.dput 5 (.var B 7) (.make "Thing" 2 (g_Thing__init__ B) [(.call 3 (g__law_note B) [(.var B 4), (.var B 1), (.ix [] (.ix [] (.var B 2) (.var B 7)) (.int B 0))] rfl), (.ix [] (.ix [] (.var B 2) (.var B 7)) (.int B 1))] rfl (XS.ini_ins)))) (.seq (.for (.wk (.var B 3)) (.name B 7) (.seq (.asg (.tup [(.name B 8), (.name B 9), (.name B 10), (.name B 11)]) (.ix [] (.var B 3) (.var B 7))) (.dput 6 (.var B 7) (.make "Claim" 4 (g_Claim__init__ B) [(.call 3 (g__law_note B) [(.var B 4), (.var B 1), (.var B 8)] rfl), (.var B 9), (.var B 10), (.var B 11)] rfl (XS.ini_ins))))) (.frzD 6 (.frzD 5 (.ret (.make "Office" 3 (g_Office__init__ B) [(.var B 4), (.var B 5), (.var B 6)] rfl (XS.ini_ins)))))))))
def g__law_office (B : Bs) : Gf := (p__law_office B).fn 12
def p__law_apart (B : Bs) : XS B := (.seq (.asg (.tup [(.name B 3), (.name B 4)]) (.tup [(.ix [] (.ix [] (.ix [] (.var B 0) (.int B 2)) (.var B 1)) (.int B 0)), (.ix [] (.ix [] (.ix [] (.var B 0) (.int B 1)) (.var B 2)) (.int B 0))])) (.ret (.ofN (.lc (.wk (.ix [] (.var B 0) (.int B 0))) (.tup [(.name B 5), (.name B 6)]) (.ofE (.eq false [] (.ofN (.lc (.wk (.ix [] (.var B 3) (.var B 5))) (.name B 7) (.ofE (.in false [] (.var B 7) (.ix [] (.var B 4) (.var B 5)))) (.var B 7) [7])) (.ofN (.lst [])))) (.var B 5) [5, 6]))))
def g__law_apart (B : Bs) : Gf := (p__law_apart B).fn 8
def p__law_can (B : Bs) : XS B := (.seq (.ite (.ofE (.op2 (o_lt B) (.ix [] (.ix [] (.ix [] (.var B 0) (.int B 1)) (.var B 2)) (.int B 1)) (.ix [] (.ix [] (.ix [] (.var B 0) (.int B 2)) (.var B 1)) (.int B 1)))) (.ret (.bl B false)) (.pass B)) (.ret (.op2 (o_le B) (.len [] (.call 3 (g__law_apart B) [(.var B 0), (.var B 1), (.var B 2)] rfl)) (.ix [] (.ix [] (.ix [] (.var B 0) (.int B 2)) (.var B 1)) (.int B 2)))))
def g__law_can (B : Bs) : Gf := (p__law_can B).fn 3
def p__law_shared (B : Bs) : XS B := (.seq (.set 3 (.ofN (.lst [(.tup [])]))) (.seq (.for (.wk (.ix [] (.var B 0) (.int B 0))) (.tup [(.name B 4), (.name B 5)]) (.seq (.set 6 (.ofN (.lst []))) (.seq (.for (.wk (.var B 3)) (.name B 7) (.set 6 (.op2 (o_add B) (.var B 6) (.ofN (.lc (.wk (.ix [] (.ix [] (.ix [] (.ix [] (.var B 0) (.int B 1)) (.var B 2)) (.int B 0)) (.var B 4))) (.name B 11) (.yes B) (.op2 (o_add B) (.var B 7) (.tup [(.var B 11)])) [11]))))) (.set 3 (.var B 6))))) (.seq (.asg (.tup [(.name B 8), (.name B 9)]) (.tup [(.ofN (.lc (.wk (.ix [] (.var B 0) (.int B 0))) (.tup [(.name B 4), (.name B 5)]) (.yes B) (.ix [] (.ix [] (.ix [] (.ix [] (.var B 0) (.int B 2)) (.var B 1)) (.int B 0)) (.var B 4)) [4, 5])), (.int B 0)])) (.seq (.for (.wk (.var B 3)) (.name B 7) (.seq (.set 10 (.ofN (.lc (.range1 (.len [] (.var B 7))) (.name B 12) (.ofE (.in true [] (.ix [] (.var B 7) (.var B 12)) (.ix [] (.var B 8) (.var B 12)))) (.var B 12) [12]))) (.set 9 (.op2 (o_add B) (.var B 9) (.blt (o_int B) [(.op2 (o_le B) (.len [] (.var B 10)) (.ix [] (.ix [] (.ix [] (.var B 0) (.int B 2)) (.var B 1)) (.int B 2)))]))))) (.ret (.ifx (.ofE (.op2 (o_geI B) (.ix [] (.ix [] (.ix [] (.var B 0) (.int B 1)) (.var B 2)) (.int B 1)) (.ix [] (.ix [] (.ix [] (.var B 0) (.int B 2)) (.var B 1)) (.int B 1)))) (.var B 9) (.int B 0)))))))
def g__law_shared (B : Bs) : Gf := (p__law_shared B).fn 13
def p_Office_claims (B : Bs) : XS B := (.ret (.ofD (.blt (od_dict B) [(.at [("Office", .fld)] "_claims" (.var B 0))])))
def g_Office_claims (B : Bs) : Gf := (p_Office_claims B).fn 1
def p_claim_of (B : Bs) : XS B := (.seq (.set 2 (.at [("Office", .prop (g_Office_claims B))] "claims" (.var B 0))) (.seq (.ite (.ofE (.in true [] (.var B 1) (.var B 2))) (.rz "UnknownLabel" (.jn [(.str B "no claim "), (.fmt (.var B 1))])) (.pass B)) (.ret (.ix [] (.var B 2) (.var B 1)))))
def g_claim_of (B : Bs) : Gf := (p_claim_of B).fn 3
def p_Office_things (B : Bs) : XS B := (.ret (.ofD (.blt (od_dict B) [(.at [("Office", .fld)] "_things" (.var B 0))])))
def g_Office_things (B : Bs) : Gf := (p_Office_things B).fn 1
def p_thing_of (B : Bs) : XS B := (.seq (.set 2 (.at [("Office", .prop (g_Office_things B))] "things" (.var B 0))) (.seq (.ite (.ofE (.in true [] (.var B 1) (.var B 2))) (.rz "UnknownLabel" (.jn [(.str B "no thing "), (.fmt (.var B 1))])) (.pass B)) (.ret (.ix [] (.var B 2) (.var B 1)))))
def g_thing_of (B : Bs) : Gf := (p_thing_of B).fn 3
def p_Office_catalog (B : Bs) : XS B := (.ret (.at [("Office", .fld)] "_catalog" (.var B 0)))
def g_Office_catalog (B : Bs) : Gf := (p_Office_catalog B).fn 1
def p_Catalog_names (B : Bs) : XS B := (.ret (.blt (o_tupA B) [(.at [("Catalog", .fld)] "_values" (.var B 0))]))
def g_Catalog_names (B : Bs) : Gf := (p_Catalog_names B).fn 1
def p_Note__getitem__ (B : Bs) : XS B := (.seq (.ite (.ofE (.in true [] (.var B 1) (.at [("Note", .fld)] "_values" (.var B 0)))) (.rz "UnknownFeature" (.jn [(.str B "no feature "), (.fmt (.var B 1))])) (.pass B)) (.ret (.ix [] (.at [("Note", .fld)] "_values" (.var B 0)) (.var B 1))))
def g_Note__getitem__ (B : Bs) : Gf := (p_Note__getitem__ B).fn 2
def p_common_values (B : Bs) : XS B := (.ret (.blt (o_tupA B) [(.ofN (.lc (.wk (.ix [("Note", g_Note__getitem__ B)] (.var B 0) (.var B 2))) (.name B 3) (.ofE (.in false [] (.var B 3) (.ix [("Note", g_Note__getitem__ B)] (.var B 1) (.var B 2)))) (.var B 3) [3]))]))
def g_common_values (B : Bs) : Gf := (p_common_values B).fn 4
def p_misfits (B : Bs) : XS B := (.seq (.set 3 (.at [("Thing", .prop (g_Thing_note B)), ("Claim", .prop (g_Claim_note B))] "note" (.call 2 (g_claim_of B) [(.var B 0), (.var B 1)] rfl))) (.seq (.set 4 (.at [("Thing", .prop (g_Thing_note B)), ("Claim", .prop (g_Claim_note B))] "note" (.call 2 (g_thing_of B) [(.var B 0), (.var B 2)] rfl))) (.ret (.ofN (.lc (.wk (.at [("Catalog", .prop (g_Catalog_names B))] "names" (.at [("Office", .prop (g_Office_catalog B))] "catalog" (.var B 0)))) (.name B 5) (.ofE (.eq false [] (.len [] (.call 3 (g_common_values B) [(.var B 3), (.var B 4), (.var B 5)] rfl)) (.int B 0))) (.var B 5) [5])))))
def g_misfits (B : Bs) : Gf := (p_misfits B).fn 6
def p_Claim_day (B : Bs) : XS B := (.ret (.at [("Claim", .fld)] "_day" (.var B 0)))
def g_Claim_day (B : Bs) : Gf := (p_Claim_day B).fn 1
def p_Thing_day (B : Bs) : XS B := (.ret (.at [("Thing", .fld)] "_day" (.var B 0)))
def g_Thing_day (B : Bs) : Gf := (p_Thing_day B).fn 1
def p_Claim_slips (B : Bs) : XS B := (.ret (.at [("Claim", .fld)] "_slips" (.var B 0)))
def g_Claim_slips (B : Bs) : Gf := (p_Claim_slips B).fn 1
def p_fits (B : Bs) : XS B := (.seq (.set 3 (.call 2 (g_claim_of B) [(.var B 0), (.var B 1)] rfl)) (.seq (.set 4 (.call 2 (g_thing_of B) [(.var B 0), (.var B 2)] rfl)) (.ret ((.and (.op2 (o_geI B) (.at [("Thing", .prop (g_Thing_day B)), ("Claim", .prop (g_Claim_day B))] "day" (.var B 4)) (.at [("Thing", .prop (g_Thing_day B)), ("Claim", .prop (g_Claim_day B))] "day" (.var B 3))) (.op2 (o_le B) (.len [] (.call 3 (g_misfits B) [(.var B 0), (.var B 1), (.var B 2)] rfl)) (.at [("Claim", .prop (g_Claim_slips B))] "slips" (.var B 3))))))))
def g_fits (B : Bs) : Gf := (p_fits B).fn 5
def p_shared_count (B : Bs) : XS B := (.seq (.ite (.not (.ofE (.call 3 (g_fits B) [(.var B 0), (.var B 1), (.var B 2)] rfl))) (.ret (.int B 0)) (.pass B)) (.seq (.set 3 (.call 2 (g_claim_of B) [(.var B 0), (.var B 1)] rfl)) (.seq (.set 4 (.at [("Thing", .prop (g_Thing_note B)), ("Claim", .prop (g_Claim_note B))] "note" (.call 2 (g_thing_of B) [(.var B 0), (.var B 2)] rfl))) (.seq (.set 5 (.op2 (o_add B) (.ofN (.lst [(.int B 1)])) (.op2 (o_mul B) (.ofN (.lst [(.int B 0)])) (.at [("Claim", .prop (g_Claim_slips B))] "slips" (.var B 3))))) (.seq (.for (.wk (.at [("Catalog", .prop (g_Catalog_names B))] "names" (.at [("Office", .prop (g_Office_catalog B))] "catalog" (.var B 0)))) (.name B 6) (.seq (.set 7 (.len [] (.call 3 (g_common_values B) [(.at [("Thing", .prop (g_Thing_note B)), ("Claim", .prop (g_Claim_note B))] "note" (.var B 3)), (.var B 4), (.var B 6)] rfl))) (.seq (.set 8 (.op2 (o_subI B) (.len [] (.ix [("Note", g_Note__getitem__ B)] (.var B 4) (.var B 6))) (.var B 7))) (.set 5 (.ofN (.lc (.zip (.var B 5) (.op2 (o_add B) (.ofN (.lst [(.int B 0)])) (.var B 5))) (.tup [(.name B 9), (.name B 10)]) (.yes B) (.op2 (o_add B) (.op2 (o_mul B) (.var B 7) (.var B 9)) (.op2 (o_mul B) (.var B 8) (.var B 10))) [9, 10])))))) (.ret (.blt (o_sum B) [(.var B 5)])))))))
def g_shared_count (B : Bs) : Gf := (p_shared_count B).fn 11
def p__law_alike (B : Bs) (G : Gf) : XS B := (.seq (.ite (.ofE (.isi isi_dict (.var B 1))) (.nv B) (.pass B)) (.seq (.ite (.ofE (.isiT isi_tuple_list (.var B 1))) (.seq (.ite ((.or (.not (.ofE (.isiT isi_tuple_list (.var B 0)))) (.ofE (.eq true [] (.isi isi_list (.var B 0)) (.isi isi_list (.var B 1)))))) (.ret (.bl B false)) (.pass B)) (.seq (.ite (.ofE (.eq true [] (.len [] (.var B 0)) (.len [] (.var B 1)))) (.ret (.bl B false)) (.pass B)) (.ret (.eq false [] (.ofN (.lc (.range1 (.len [] (.var B 1))) (.name B 2) (.not (.ofE (.call 2 (G) [(.ix [] (.var B 0) (.var B 2)), (.ix [] (.var B 1) (.var B 2))] rfl))) (.var B 2) [2])) (.ofN (.lst [])))))) (.pass B)) (.seq (.ite ((.or (.ofE (.op2 (o_isN B) (.var B 1) (.non B))) (.ofE (.isi isi_str (.var B 1))))) (.ret ((.and (.eq false [] (.var B 0) (.var B 1)) (.eq false [] (.isi isi_str (.var B 0)) (.isi isi_str (.var B 1)))))) (.pass B)) (.ret ((.and (.isi isi_int (.var B 0)) (.and (.eq false [] (.isi isi_bool (.var B 0)) (.isi isi_bool (.var B 1))) (.eq false [] (.var B 0) (.var B 1)))))))))
def g__law_alike (B : Bs) : Nat → Gf
  | 0 => fun _ _ => .stuck
  | n + 1 => (p__law_alike B (g__law_alike B n)).fn 3
def p_candidates (B : Bs) : XS B := (.seq (.ite (.ofE (.in false [] (.var B 1) (.at [("Office", .prop (g_Office_claims B))] "claims" (.var B 0)))) (.ret (.ofN (.lc (.wk (.at [("Office", .prop (g_Office_things B))] "things" (.var B 0))) (.name B 2) (.ofE (.call 3 (g_fits B) [(.var B 0), (.var B 1), (.var B 2)] rfl)) (.var B 2) [2]))) (.pass B)) (.seq (.ite (.ofE (.in false [] (.var B 1) (.at [("Office", .prop (g_Office_things B))] "things" (.var B 0)))) (.ret (.ofN (.lc (.wk (.at [("Office", .prop (g_Office_claims B))] "claims" (.var B 0))) (.name B 3) (.ofE (.call 3 (g_fits B) [(.var B 0), (.var B 3), (.var B 1)] rfl)) (.var B 3) [3]))) (.pass B)) (.rz "UnknownLabel" (.jn [(.str B "no thing and no claim "), (.fmt (.var B 1))]))))
def g_candidates (B : Bs) : Gf := (p_candidates B).fn 4
def p_rivals (B : Bs) : XS B := (.seq (.drop (.call 2 (g_claim_of B) [(.var B 0), (.var B 1)] rfl)) (.seq (.set 2 (.call 2 (g_candidates B) [(.var B 0), (.var B 1)] rfl)) (.seq (.set 3 (.ofN (.lc (.wk (.at [("Office", .prop (g_Office_claims B))] "claims" (.var B 0))) (.name B 4) (.ofE (.eq true [] (.var B 4) (.var B 1))) (.var B 4) [4]))) (.ret (.ofN (.lc (.wk (.var B 3)) (.name B 4) (.ofE (.blt (o_any B) [(.ofN (.lc (.wk (.var B 2)) (.name B 5) (.yes B) (.call 3 (g_fits B) [(.var B 0), (.var B 4), (.var B 5)] rfl) [5]))])) (.var B 4) [4]))))))
def g_rivals (B : Bs) : Gf := (p_rivals B).fn 6
def p_lonely (B : Bs) : XS B := (.seq (.set 1 (.blt (o_sorted B) [(.op2 (o_add B) (.blt (o_list B) [(.at [("Office", .prop (g_Office_things B))] "things" (.var B 0))]) (.blt (o_list B) [(.at [("Office", .prop (g_Office_claims B))] "claims" (.var B 0))]))])) (.ret (.ofN (.lc (.wk (.var B 1)) (.name B 2) (.ofE (.eq false [] (.len [] (.call 2 (g_candidates B) [(.var B 0), (.var B 2)] rfl)) (.int B 0))) (.var B 2) [2]))))
def g_lonely (B : Bs) : Gf := (p_lonely B).fn 3
end Lo

set_option Elab.async false
set_option linter.all false
set_option maxRecDepth 100000
namespace K6
open PySem PySem.Spec PyProof.Rows L2 Evl Dv Lo
def p_law (B : Bs) : XS B := (.seq (.for (.range1 (.int B 4)) (.name B 2) (.seq (.set 3 (.call 3 (g__law_drawn B) [(.var B 1), (.int B 5), (.int B 5)] rfl)) (.seq (.asgE 4 5 6 (.call 1 (g__law_office B) [(.var B 3)] rfl) (.ofN (.lst []))) (.seq (.for (.wk (.ix [] (.var B 3) (.int B 2))) (.name B 7) (.dput 6 (.var B 7) (.ofN (.lc (.wk (.ix [] (.var B 3) (.int B 1))) (.name B 11) (.ofE (.call 3 (g__law_can B) [(.var B 3), (.var B 7), (.var B 11)] rfl)) (.var B 11) [11])))) (.seq (.for (.wk (.ix [] (.var B 3) (.int B 2))) (.name B 7) (.seq (.frzM 6 (.set 5 (.op2 (o_add B) (.var B 5) (.op2 (o_mul B) (.ofN (.lst [(.var B 7)])) (.blt (o_int B) [(.eq false [] (.ix [] (.var B 6) (.var B 7)) (.ofN (.lst [])))]))))) (.seq (.ite (.view (.not (.ofE (.call 2 (g__law_alike B 6) [(.call 2 (g_candidates B) [(.var B 4), (.var B 7)] rfl), (.ix [] (.var B 6) (.var B 7))] rfl)))) (.ret (.bl B false)) (.pass B)) (.seq (.setN 8 (.lst [])) (.seq (.for (.wk (.ix [] (.var B 3) (.int B 2))) (.name B 9) (.seq (.set 10 (.ofN (.view (.lc (.wk (.ix [] (.var B 6) (.var B 9))) (.name B 11) (.ofE (.in false [] (.var B 11) (.ix [] (.var B 6) (.var B 7)))) (.var B 11) [11])))) (.ite ((.and (.ofE (.eq true [] (.var B 9) (.var B 7))) (.ofE (.eq true [] (.var B 10) (.ofN (.lst [])))))) (.app 8 (.var B 9)) (.pass B)))) (.ite (.view (.not (.ofE (.call 2 (g__law_alike B 6) [(.call 2 (g_rivals B) [(.var B 4), (.var B 7)] rfl), (.var B 8)] rfl)))) (.ret (.bl B false)) (.pass B))))))) (.seq (.for (.wk (.ix [] (.var B 3) (.int B 1))) (.name B 11) (.seq (.setN 8 (.view (.lc (.wk (.ix [] (.var B 3) (.int B 2))) (.name B 7) (.ofE (.in false [] (.var B 11) (.ix [] (.var B 6) (.var B 7)))) (.var B 7) [7]))) (.seq (.frz 8 (.set 5 (.op2 (o_add B) (.var B 5) (.op2 (o_mul B) (.ofN (.lst [(.var B 11)])) (.blt (o_int B) [(.eq false [] (.var B 8) (.ofN (.lst [])))]))))) (.ite (.view (.not (.ofE (.call 2 (g__law_alike B 6) [(.call 2 (g_candidates B) [(.var B 4), (.var B 11)] rfl), (.var B 8)] rfl)))) (.ret (.bl B false)) (.pass B))))) (.ite (.not (.ofE (.call 2 (g__law_alike B 6) [(.call 1 (g_lonely B) [(.var B 4)] rfl), (.blt (o_sorted B) [(.var B 5)])] rfl))) (.ret (.bl B false)) (.pass B)))))))) (.ret (.bl B true)))
end K6

set_option Elab.async false
set_option linter.all false
set_option maxRecDepth 100000

namespace K6
open PySem PySem.Spec PyProof.Rows L2 Evl Dv Lo
def top (i : Nat) : Stmt := PySem.Challenge.pw_lostdesk_k06_candidates_and_rivals.main.body.getD i (.Pass ⟨0, 0, 0, 0⟩)
variable {P : Program} {w : World} {mg : Str → Option Value} {base : Heap}
abbrev N__law_next_ : List Str := ["_law_h", "_law_limit", "_law_cell"]
theorem sc__law_next : FnScope N__law_next_ ["_law_h", "_law_limit"] (defScope (top 45)) := ⟨rfl, rfl, rfl, by decide +kernel, rfl, by decide +kernel, by decide +kernel⟩
set_option maxHeartbeats 4000000 in
theorem ok__law_next {B : Bs} {f : Addr} {fd : FuncData}  (Fn : Fun B.K "_law_next" "_law_next" (top 45) f fd) (m_int : mg "int" = none) (m_len : mg "len" = none) (m_max : mg "max" = none) :
    FnOk P w B.K mg base (L2.CX P w) 3 f fd ["_law_h", "_law_limit"] (spD B 2 (g__law_next B)) := by
  refine fn_ok Fn sc__law_next (fun ds s _ => rfl) fun cdv A outer s H E hr => ?_
  exact conv (pss_cons (ps_set (i := 2) sc__law_next.nd rfl (Or.inl rfl) (pe_ixU (B := B) (k := 1) rfl (takes_of rfl rfl rfl rfl) hr no_hd (pe_op op_cat (pe_ix ix_list (pv 0) pe_int (fun _ _ => rfl)) (pe_lst (pa_cons pe_int pa_nil))) (pe_op op_mod (pe_callTy call_int1 (by rfl) m_int (by decide +kernel) (pa_cons (pe_ix ix_list (pv 0) pe_int (fun _ _ => rfl)) pa_nil)) (pe_callB (call_max2 rfl) (by rfl) m_max (by decide +kernel) (pa_cons (pe_int) (pa_cons (pe_callB (call_lenD_ (B := B) rfl) (by rfl) m_len (by decide +kernel) (pa_cons (pe_ix ix_list (pv 0) pe_int (fun _ _ => rfl)) pa_nil)) pa_nil)))) (fun _ _ => rfl))) (pss_cons (ps_if (pt_cmpR op_ge (pv 2) (pe_op op_pow (pe_int) (pe_int)) (nomark _)) (pss_cons (ps_asg (pe_op op_fdiv (pv 2) (pv 1)) (pg_sub (pe_ix ix_list (pv 0) pe_int (fun _ _ => rfl)) (pe_op op_mod (pe_callTy call_int1 (by rfl) m_int (by decide +kernel) (pa_cons (pe_ix ix_list (pv 0) pe_int (fun _ _ => rfl)) pa_nil)) (pe_callB (call_lenD_ (B := B) rfl) (by rfl) m_len (by decide +kernel) (pa_cons (pe_ix ix_list (pv 0) pe_int (fun _ _ => rfl)) pa_nil))) set_list)) (pss_one (ps_ret (pe_op op_mod (pe_callTy call_int1 (by rfl) m_int (by decide +kernel) (pa_cons (pv 2) pa_nil)) (pv 1))))) pss_nil) (pss_cons (ps_asg (pe_op op_mod (pe_callTy call_int1 (by rfl) m_int (by decide +kernel) (pa_cons (pe_op (op_addU (B := B) rfl) (pe_op (op_addU (B := B) rfl) (pe_op (op_mulU (B := B)) (pe_ix ix_list (pv 0) pe_int (fun _ _ => rfl)) (pe_int)) (pe_op (op_mulU (B := B)) (pv 2) (pe_int))) (pe_int)) pa_nil)) (pe_int)) (pg_sub (pv 0) pe_int set_list)) (pss_cons (ps_asg (pe_op (op_addU (B := B) rfl) (pe_ix ix_list (pv 0) pe_int (fun _ _ => rfl)) (pe_int)) (pg_sub (pv 0) pe_int set_list)) (pss_one (ps_ret (pe_op op_mod (pe_callTy call_int1 (by rfl) m_int (by decide +kernel) (pa_cons (pe_op op_fdiv (pe_ix ix_list (pv 0) pe_int (fun _ _ => rfl)) (pe_int)) pa_nil)) (pv 1)))))))) rfl
abbrev N__law_features_ : List Str := ["_law_h", "_law_most", "_law_found", "_law_k", "_law_words"]
theorem sc__law_features : FnScope N__law_features_ ["_law_h", "_law_most"] (defScope (top 47)) := ⟨rfl, rfl, rfl, by decide +kernel, rfl, by decide +kernel, by decide +kernel⟩
set_option maxHeartbeats 4000000 in
theorem ok__law_features {B : Bs} {f : Addr} {fd : FuncData} {a__law_next : Addr} {fd__law_next : FuncData} (Fn : Fun B.K "_law_features" "_law_features" (top 47) f fd) (m_range : mg "range" = none) (m_len : mg "len" = none) (m_tuple : mg "tuple" = none) (F__law_next : FnOk P w B.K mg base (L2.CX P w) 3 a__law_next fd__law_next ["_law_h", "_law_limit"] (spD B 2 (g__law_next B))) (m__law_next : mg "_law_next" = some (.ref a__law_next)) (k__law_next : PySem.W.keepIn B.K (.ref a__law_next) = true) (b__law_next : Binds B.K fd__law_next ["_law_h", "_law_limit"] []) :
    FnOk P w B.K mg base (L2.CX P w) 4 f fd ["_law_h", "_law_most"] (spD B 2 (g__law_features B)) := by
  refine fn_ok Fn sc__law_features (fun ds s _ => rfl) fun cdv A outer s H E hr => ?_
  exact conv (pss_cons (ps_set (i := 2) sc__law_features.nd rfl (Or.inl rfl) (pe_lst pa_nil)) (pss_cons (ps_for (passes_of rfl) rfl (pi_range1 (by rfl) m_range (pa_cons (pe_op (op_addU (B := B) rfl) (pe_int) (pe_callS (F__law_next.mono (by decide)) hr (by rfl) m__law_next k__law_next b__law_next (passAt (takes_of rfl rfl rfl rfl)) (pa_cons (pv 0) (pa_cons (pv 1) pa_nil)))) pa_nil)) (pg_name (i := 3) sc__law_features.nd rfl (Or.inl rfl)) (pss_cons (ps_set (i := 4) sc__law_features.nd rfl (Or.inl rfl) (pe_lst (pa_cons (pe_str) (pa_cons (pe_str) (pa_cons (pe_str) (pa_cons (pe_str) (pa_cons (pe_str) pa_nil))))))) (pss_cons (ps_while (passes_of rfl) (pt_cmpR op_gt (pe_callB (call_lenU (B := B) (hs := []) (k := 2) rfl hr no_hd) (by rfl) m_len (by decide +kernel) (pa_cons (pv 4) pa_nil)) (pe_op (op_addU (B := B) rfl) (pe_int) (pe_callS (F__law_next.mono (by decide)) hr (by rfl) m__law_next k__law_next b__law_next (passAt (takes_of rfl rfl rfl rfl)) (pa_cons (pv 0) (pa_cons (pe_int) pa_nil)))) (nomark _)) (pss_one (ps_expr (pe_bm PySem.F.plainAttrs_list PySem.F.slot_list_pop PySem.F.type_list_pop mt_popAt (pv 4) (pa_cons (pe_callS (F__law_next.mono (by decide)) hr (by rfl) m__law_next k__law_next b__law_next (passAt (takes_of rfl rfl rfl rfl)) (pa_cons (pv 0) (pa_cons (pe_callB (call_lenU (B := B) (hs := []) (k := 2) rfl hr no_hd) (by rfl) m_len (by decide +kernel) (pa_cons (pv 4) pa_nil)) pa_nil))) pa_nil))))) (pss_one (ps_expr (pe_bm PySem.F.plainAttrs_list PySem.F.slot_list_append PySem.F.type_list_append mt_append (pv 2) (pa_cons (pe_tupP (pa_cons (pe_ixU (B := B) (k := 2) rfl (takes_of rfl rfl rfl rfl) hr no_hd (pe_lst (pa_cons (pe_str) (pa_cons (pe_str) (pa_cons (pe_str) (pa_cons (pe_str) (pa_cons (pe_str) (pa_cons (pe_str) pa_nil))))))) (pv 3) (fun _ _ => rfl)) (pa_cons (pe_callTy (call_tupA (B := B) rfl rfl) (by rfl) m_tuple (by decide +kernel) (pa_cons (pv 4) pa_nil)) pa_nil))) pa_nil))))))) (pss_one (ps_ret (pe_callTy (call_tupA (B := B) rfl rfl) (by rfl) m_tuple (by decide +kernel) (pa_cons (pv 2) pa_nil)))))) rfl
abbrev N__law_some_ : List Str := ["_law_h", "_law_words", "_law_found", "_law_word"]
theorem sc__law_some : FnScope N__law_some_ ["_law_h", "_law_words"] (defScope (top 48)) := ⟨rfl, rfl, rfl, by decide +kernel, rfl, by decide +kernel, by decide +kernel⟩
set_option maxHeartbeats 4000000 in
theorem ok__law_some {B : Bs} {f : Addr} {fd : FuncData} {a__law_next : Addr} {fd__law_next : FuncData} (Fn : Fun B.K "_law_some" "_law_some" (top 48) f fd) (m_tuple : mg "tuple" = none) (m_len : mg "len" = none) (F__law_next : FnOk P w B.K mg base (L2.CX P w) 3 a__law_next fd__law_next ["_law_h", "_law_limit"] (spD B 2 (g__law_next B))) (m__law_next : mg "_law_next" = some (.ref a__law_next)) (k__law_next : PySem.W.keepIn B.K (.ref a__law_next) = true) (b__law_next : Binds B.K fd__law_next ["_law_h", "_law_limit"] []) :
    FnOk P w B.K mg base (L2.CX P w) 4 f fd ["_law_h", "_law_words"] (spD B 2 (g__law_some B)) := by
  refine fn_ok Fn sc__law_some (fun ds s _ => rfl) fun cdv A outer s H E hr => ?_
  exact conv (pss_cons (ps_if (pt_cmpE (op_eqU (B := B) (hs := []) (k := 2) (neg := false) rfl rfl (takes_of rfl rfl rfl rfl) hr no_eq) (pe_callS (F__law_next.mono (by decide)) hr (by rfl) m__law_next k__law_next b__law_next (passAt (takes_of rfl rfl rfl rfl)) (pa_cons (pv 0) (pa_cons (pe_int) pa_nil))) (pe_int)) (pss_one (ps_ret (pv 1))) pss_nil) (pss_cons (ps_setLc (i := 2) (y := "_law_found") (own := [("_law_word", 3)]) rfl sc__law_some.nd rfl rfl (sw_true rfl rfl rfl (by decide +kernel)) (pi_wk (B := B) rfl (pv 1)) (blkOk_by (N := N__law_some_) (sc := defScope (top 48)) (by decide +kernel)) (fun _ _ _ _ _ => (pg_name (i := 3) sc__law_some.nd rfl (by first | exact Or.inl rfl | exact Or.inr rfl))) (fun _ _ _ _ _ => (pts_one (pt_cmpE (op_eqU (B := B) (hs := []) (k := 2) (neg := false) rfl rfl tkW0 hr no_eq) (pe_callS (F__law_next.mono (by decide)) hr (by rfl) m__law_next k__law_next b__law_next (passAt tkW0) (pa_cons (pv 0) (pa_cons (pe_int) pa_nil))) (pe_int)))) (fun _ _ _ _ _ => (pv 3))) (pss_one (ps_ret (pe_ifExp (pt_cmpE (op_eqU (B := B) (hs := []) (k := 2) (neg := true) rfl rfl (takes_of rfl rfl rfl rfl) hr no_eq) (pv 2) (pe_lst pa_nil)) (pe_callTy (call_tupA (B := B) rfl rfl) (by rfl) m_tuple (by decide +kernel) (pa_cons (pv 2) pa_nil)) (pe_tupP (pa_cons (pe_ixU (B := B) (k := 2) rfl (takes_of rfl rfl rfl rfl) hr no_hd (pv 1) (pe_callS (F__law_next.mono (by decide)) hr (by rfl) m__law_next k__law_next b__law_next (passAt (takes_of rfl rfl rfl rfl)) (pa_cons (pv 0) (pa_cons (pe_callB (call_lenU (B := B) (hs := []) (k := 2) rfl hr no_hd) (by rfl) m_len (by decide +kernel) (pa_cons (pv 1) pa_nil)) pa_nil))) (fun _ _ => rfl)) pa_nil))))))) rfl
abbrev N__law_sets_ : List Str := ["_law_h", "_law_features_here", "_law_name", "_law_words"]
theorem sc__law_sets : FnScope N__law_sets_ ["_law_h", "_law_features_here"] (defScope (top 49)) := ⟨rfl, rfl, rfl, by decide +kernel, rfl, by decide +kernel, by decide +kernel⟩
set_option maxHeartbeats 4000000 in
theorem ok__law_sets {B : Bs} {f : Addr} {fd : FuncData} {a__law_some : Addr} {fd__law_some : FuncData} (Fn : Fun B.K "_law_sets" "_law_sets" (top 49) f fd) (m_dict : mg "dict" = none) (F__law_some : FnOk P w B.K mg base (L2.CX P w) 4 a__law_some fd__law_some ["_law_h", "_law_words"] (spD B 2 (g__law_some B))) (m__law_some : mg "_law_some" = some (.ref a__law_some)) (k__law_some : PySem.W.keepIn B.K (.ref a__law_some) = true) (b__law_some : Binds B.K fd__law_some ["_law_h", "_law_words"] []) :
    FnOk P w B.K mg base (L2.CX P w) 5 f fd ["_law_h", "_law_features_here"] (spD B 2 (g__law_sets B)) := by
  refine fn_ok Fn sc__law_sets (fun ds s _ => rfl) fun cdv A outer s H E hr => ?_
  exact conv (pss_one (ps_ret (pe_lk (pe_callTy (call_dictV (B := B) rfl rfl) (by rfl) m_dict (by decide +kernel) (pa_cons (pe_lc (own := [("_law_name", 2), ("_law_words", 3)]) rfl sc__law_sets.nd (pi_wk (B := B) rfl (pv 1)) (blkOk_by (N := N__law_sets_) (sc := defScope (top 49)) (by decide +kernel)) (fun _ _ _ _ _ => (pg_tup rfl (pgs_cons (pg_name (i := 2) sc__law_sets.nd rfl (by first | exact Or.inl rfl | exact Or.inr rfl)) (pgs_cons (pg_name (i := 3) sc__law_sets.nd rfl (by first | exact Or.inl rfl | exact Or.inr rfl)) pgs_nil)))) (fun _ _ _ _ _ => pts_nil) (fun _ _ _ _ _ => (pe_tupP (pa_cons (pv 2) (pa_cons (pe_callS (F__law_some.mono (by decide)) hr (by rfl) m__law_some k__law_some b__law_some (passAt tkW0) (pa_cons (pv 0) (pa_cons (pv 3) pa_nil))) pa_nil))))) pa_nil))))) rfl
abbrev N__law_drawn_ : List Str := ["_law_h", "_law_things", "_law_claims", "_law_features_here", "_law_found", "_law_lost", "_law_label", "_law_slips"]
theorem sc__law_drawn : FnScope N__law_drawn_ ["_law_h", "_law_things", "_law_claims"] (defScope (top 50)) := ⟨rfl, rfl, rfl, by decide +kernel, rfl, by decide +kernel, by decide +kernel⟩
set_option maxHeartbeats 4000000 in
theorem ok__law_drawn {B : Bs} {f : Addr} {fd : FuncData} {a__law_features : Addr} {fd__law_features : FuncData} {a__law_next : Addr} {fd__law_next : FuncData} {a__law_sets : Addr} {fd__law_sets : FuncData} (Fn : Fun B.K "_law_drawn" "_law_drawn" (top 50) f fd) (F__law_features : FnOk P w B.K mg base (L2.CX P w) 4 a__law_features fd__law_features ["_law_h", "_law_most"] (spD B 2 (g__law_features B))) (m__law_features : mg "_law_features" = some (.ref a__law_features)) (k__law_features : PySem.W.keepIn B.K (.ref a__law_features) = true) (b__law_features : Binds B.K fd__law_features ["_law_h", "_law_most"] []) (F__law_next : FnOk P w B.K mg base (L2.CX P w) 3 a__law_next fd__law_next ["_law_h", "_law_limit"] (spD B 2 (g__law_next B))) (m__law_next : mg "_law_next" = some (.ref a__law_next)) (k__law_next : PySem.W.keepIn B.K (.ref a__law_next) = true) (b__law_next : Binds B.K fd__law_next ["_law_h", "_law_limit"] []) (F__law_sets : FnOk P w B.K mg base (L2.CX P w) 5 a__law_sets fd__law_sets ["_law_h", "_law_features_here"] (spD B 2 (g__law_sets B))) (m__law_sets : mg "_law_sets" = some (.ref a__law_sets)) (k__law_sets : PySem.W.keepIn B.K (.ref a__law_sets) = true) (b__law_sets : Binds B.K fd__law_sets ["_law_h", "_law_features_here"] []) :
    FnOk P w B.K mg base (L2.CX P w) 6 f fd ["_law_h", "_law_things", "_law_claims"] (spD B 3 (g__law_drawn B)) := by
  refine fn_ok Fn sc__law_drawn (fun ds s _ => rfl) fun cdv A outer s H E hr => ?_
  exact conv (pss_cons (ps_par3 (i := 3) (j := 4) (l := 5) rfl sc__law_drawn.nd rfl rfl rfl (by decide) (by decide) (by decide) rfl rfl rfl (pa_cons (pe_callS (F__law_features.mono (by decide)) hr (by rfl) m__law_features k__law_features b__law_features (passAt (takes_of rfl rfl rfl rfl)) (pa_cons (pv 0) (pa_cons (pe_int) pa_nil))) (pa_cons pe_dnewK (pa_cons pe_dnewK pa_nil))) (by rfl)) (pss_cons (ps_for (passes_of rfl) rfl (pi_wk (B := B) rfl (pe_slice (sl_D (B := B) rfl) (pe_lst (pa_cons (pe_str) (pa_cons (pe_str) (pa_cons (pe_str) (pa_cons (pe_str) (pa_cons (pe_str) (pa_cons (pe_str) pa_nil))))))) po_none (po_some (pe_callS (F__law_next.mono (by decide)) hr (by rfl) m__law_next k__law_next b__law_next (passAt (takes_of rfl rfl rfl rfl)) (pa_cons (pv 0) (pa_cons (pe_op (op_addU (B := B) rfl) (pv 1) (pe_int)) pa_nil)))))) (pg_name (i := 6) sc__law_drawn.nd rfl (Or.inl rfl)) (pss_one (ps_dput (hu_of hr) (pv 4) (pv 6) (pe_tupP (pa_cons (pe_callS (F__law_sets.mono (by decide)) hr (by rfl) m__law_sets k__law_sets b__law_sets (passAt (takes_of rfl rfl rfl rfl)) (pa_cons (pv 0) (pa_cons (pv 3) pa_nil))) (pa_cons (pe_op (op_addU (B := B) rfl) (pe_int) (pe_callS (F__law_next.mono (by decide)) hr (by rfl) m__law_next k__law_next b__law_next (passAt (takes_of rfl rfl rfl rfl)) (pa_cons (pv 0) (pa_cons (pe_int) pa_nil)))) pa_nil))) rfl))) (pss_cons (ps_for (passes_of rfl) rfl (pi_wk (B := B) rfl (pe_slice (sl_D (B := B) rfl) (pe_lst (pa_cons (pe_str) (pa_cons (pe_str) (pa_cons (pe_str) (pa_cons (pe_str) (pa_cons (pe_str) (pa_cons (pe_str) pa_nil))))))) po_none (po_some (pe_callS (F__law_next.mono (by decide)) hr (by rfl) m__law_next k__law_next b__law_next (passAt (takes_of rfl rfl rfl rfl)) (pa_cons (pv 0) (pa_cons (pe_op (op_addU (B := B) rfl) (pv 2) (pe_int)) pa_nil)))))) (pg_name (i := 6) sc__law_drawn.nd rfl (Or.inl rfl)) (pss_cons (ps_set (i := 7) sc__law_drawn.nd rfl (Or.inl rfl) (pe_ixU (B := B) (k := 4) rfl (takes_of rfl rfl rfl rfl) hr no_hd (pe_lst (pa_cons (pe_int) (pa_cons (pe_int) (pa_cons (pe_int) (pa_cons (pe_int) pa_nil))))) (pe_callS (F__law_next.mono (by decide)) hr (by rfl) m__law_next k__law_next b__law_next (passAt (takes_of rfl rfl rfl rfl)) (pa_cons (pv 0) (pa_cons (pe_int) pa_nil))) (fun _ _ => rfl))) (pss_one (ps_dput (hu_of hr) (pv 5) (pv 6) (pe_tupP (pa_cons (pe_callS (F__law_sets.mono (by decide)) hr (by rfl) m__law_sets k__law_sets b__law_sets (passAt (takes_of rfl rfl rfl rfl)) (pa_cons (pv 0) (pa_cons (pv 3) pa_nil))) (pa_cons (pe_callS (F__law_next.mono (by decide)) hr (by rfl) m__law_next k__law_next b__law_next (passAt (takes_of rfl rfl rfl rfl)) (pa_cons (pv 0) (pa_cons (pe_int) pa_nil))) (pa_cons (pv 7) (pa_cons (pe_op (op_addU (B := B) rfl) (pe_int) (pe_callS (F__law_next.mono (by decide)) hr (by rfl) m__law_next k__law_next b__law_next (passAt (takes_of rfl rfl rfl rfl)) (pa_cons (pv 0) (pa_cons (pe_ixU (B := B) (k := 4) rfl (takes_of rfl rfl rfl rfl) hr no_hd (pe_lst (pa_cons (pe_int) (pa_cons (pe_int) pa_nil))) (pe_callS (F__law_next.mono (by decide)) hr (by rfl) m__law_next k__law_next b__law_next (passAt (takes_of rfl rfl rfl rfl)) (pa_cons (pv 0) (pa_cons (pe_int) pa_nil))) (fun _ _ => rfl)) pa_nil)))) pa_nil))))) rfl)))) (pss_one (ps_lk 5 (ps_lk 4 (ps_ret (pe_tupP (pa_cons (pv 3) (pa_cons (pv 4) (pa_cons (pv 5) pa_nil))))))))))) rfl
abbrev N_is_word_ : List Str := ["text", "letter"]
theorem sc_is_word : FnScope N_is_word_ ["text"] (defScope (top 15)) := ⟨rfl, rfl, rfl, by decide +kernel, rfl, by decide +kernel, by decide +kernel⟩
set_option maxHeartbeats 4000000 in
theorem ok_is_word {B : Bs} {f : Addr} {fd : FuncData} {t_MOST_LETTERS : Tok} (Fn : Fun B.K "is_word" "is_word" (top 15) f fd) (m_len : mg "len" = none) (m_MOST_LETTERS : mg "MOST_LETTERS" = some (.int 8 t_MOST_LETTERS)) (m_all : mg "all" = none) :
    FnOk P w B.K mg base (L2.CX P w) 3 f fd ["text"] (spD B 1 (g_is_word B)) := by
  refine fn_ok Fn sc_is_word (fun ds s _ => rfl) fun cdv A outer s H E hr => ?_
  exact conv (pss_one (ps_ret ((pe_and (pe_chain (op_leU (B := B)) (op_leU (B := B)) (pe_int) (pe_callB (call_lenU (B := B) (hs := []) (k := 1) rfl hr no_hd) (by rfl) m_len (by decide +kernel) (pa_cons (pv 0) pa_nil)) (pe_glob (v := .int 8) (by rfl) m_MOST_LETTERS ⟨_, rfl⟩)) (pe_one (pe_callB (call_allU (B := B) rfl rfl) (by rfl) m_all (by decide +kernel) (pa_cons (pe_lc (own := [("letter", 1)]) rfl sc_is_word.nd (pi_wk (B := B) rfl (pv 0)) (blkOk_by (N := N_is_word_) (sc := defScope (top 15)) (by decide +kernel)) (fun _ _ _ _ _ => (pg_name (i := 1) sc_is_word.nd rfl (by first | exact Or.inl rfl | exact Or.inr rfl))) (fun _ _ _ _ _ => pts_nil) (fun _ _ _ _ _ => (pe_chain (op_leU (B := B)) (op_leU (B := B)) (pe_str) (pv 1) (pe_str)))) pa_nil))))))) rfl
abbrev N_ascends_ : List Str := ["words", "one", "other"]
theorem sc_ascends : FnScope N_ascends_ ["words"] (defScope (top 16)) := ⟨rfl, rfl, rfl, by decide +kernel, rfl, by decide +kernel, by decide +kernel⟩
set_option maxHeartbeats 4000000 in
theorem ok_ascends {B : Bs} {f : Addr} {fd : FuncData}  (Fn : Fun B.K "ascends" "ascends" (top 16) f fd) (m_zip : mg "zip" = none) (m_all : mg "all" = none) :
    FnOk P w B.K mg base (L2.CX P w) 3 f fd ["words"] (spD B 1 (g_ascends B)) := by
  refine fn_ok Fn sc_ascends (fun ds s _ => rfl) fun cdv A outer s H E hr => ?_
  exact conv (pss_one (ps_ret (pe_callB (call_allU (B := B) rfl rfl) (by rfl) m_all (by decide +kernel) (pa_cons (pe_lc (own := [("one", 1), ("other", 2)]) rfl sc_ascends.nd (RZ.pi_zipA (by rfl) m_zip (pa_cons (pv 0) (pa_cons (pe_slice (sl_D (B := B) rfl) (pv 0) (po_some (pe_int)) po_none) pa_nil))) (blkOk_by (N := N_ascends_) (sc := defScope (top 16)) (by decide +kernel)) (fun _ _ _ _ _ => (pg_tup rfl (pgs_cons (pg_name (i := 1) sc_ascends.nd rfl (by first | exact Or.inl rfl | exact Or.inr rfl)) (pgs_cons (pg_name (i := 2) sc_ascends.nd rfl (by first | exact Or.inl rfl | exact Or.inr rfl)) pgs_nil)))) (fun _ _ _ _ _ => pts_nil) (fun _ _ _ _ _ => (pe_cmpR (op_ltU (B := B)) (pv 1) (pv 2) (nomark _)))) pa_nil)))) rfl
abbrev N_is_feature_ : List Str := ["name", "values", "value"]
theorem sc_is_feature : FnScope N_is_feature_ ["name", "values"] (defScope (top 17)) := ⟨rfl, rfl, rfl, by decide +kernel, rfl, by decide +kernel, by decide +kernel⟩
set_option maxHeartbeats 4000000 in
theorem ok_is_feature {B : Bs} {f : Addr} {fd : FuncData} {a_is_word : Addr} {fd_is_word : FuncData} {a_ascends : Addr} {fd_ascends : FuncData} {t_FEWEST_VALUES : Tok} {t_MOST_VALUES : Tok} (Fn : Fun B.K "is_feature" "is_feature" (top 17) f fd) (m_FEWEST_VALUES : mg "FEWEST_VALUES" = some (.int 2 t_FEWEST_VALUES)) (m_len : mg "len" = none) (m_MOST_VALUES : mg "MOST_VALUES" = some (.int 8 t_MOST_VALUES)) (m_all : mg "all" = none) (F_is_word : FnOk P w B.K mg base (L2.CX P w) 3 a_is_word fd_is_word ["text"] (spD B 1 (g_is_word B))) (m_is_word : mg "is_word" = some (.ref a_is_word)) (k_is_word : PySem.W.keepIn B.K (.ref a_is_word) = true) (b_is_word : Binds B.K fd_is_word ["text"] []) (F_ascends : FnOk P w B.K mg base (L2.CX P w) 3 a_ascends fd_ascends ["words"] (spD B 1 (g_ascends B))) (m_ascends : mg "ascends" = some (.ref a_ascends)) (k_ascends : PySem.W.keepIn B.K (.ref a_ascends) = true) (b_ascends : Binds B.K fd_ascends ["words"] []) :
    FnOk P w B.K mg base (L2.CX P w) 4 f fd ["name", "values"] (spD B 2 (g_is_feature B)) := by
  refine fn_ok Fn sc_is_feature (fun ds s _ => rfl) fun cdv A outer s H E hr => ?_
  exact conv (pss_cons (ps_if (pt_not (pt_chain (op_leU (B := B)) (op_leU (B := B)) (pe_glob (v := .int 2) (by rfl) m_FEWEST_VALUES ⟨_, rfl⟩) (pe_callB (call_lenU (B := B) (hs := []) (k := 2) rfl hr no_hd) (by rfl) m_len (by decide +kernel) (pa_cons (pv 1) pa_nil)) (pe_glob (v := .int 8) (by rfl) m_MOST_VALUES ⟨_, rfl⟩))) (pss_one (ps_ret (pe_bl))) pss_nil) (pss_one (ps_ret ((pe_and (pe_callS (F_is_word.mono (by decide)) hr (by rfl) m_is_word k_is_word b_is_word (passAt (takes_of rfl rfl rfl rfl)) (pa_cons (pv 0) pa_nil)) (pe_and (pe_callS (F_ascends.mono (by decide)) hr (by rfl) m_ascends k_ascends b_ascends (passAt (takes_of rfl rfl rfl rfl)) (pa_cons (pv 1) pa_nil)) (pe_one (pe_callB (call_allU (B := B) rfl rfl) (by rfl) m_all (by decide +kernel) (pa_cons (pe_lc (own := [("value", 2)]) rfl sc_is_feature.nd (pi_wk (B := B) rfl (pv 1)) (blkOk_by (N := N_is_feature_) (sc := defScope (top 17)) (by decide +kernel)) (fun _ _ _ _ _ => (pg_name (i := 2) sc_is_feature.nd rfl (by first | exact Or.inl rfl | exact Or.inr rfl))) (fun _ _ _ _ _ => pts_nil) (fun _ _ _ _ _ => (pe_callS (F_is_word.mono (by decide)) hr (by rfl) m_is_word k_is_word b_is_word (passAt tkW0) (pa_cons (pv 2) pa_nil)))) pa_nil))))))))) rfl
abbrev N_Catalog__init___ : List Str := ["self", "features", "names", "index", "name", "values"]
theorem sc_Catalog__init__ : FnScope N_Catalog__init___ ["self", "features"] (defScope (inClass (top 18) 0)) := ⟨rfl, rfl, rfl, by decide +kernel, rfl, by decide +kernel, by decide +kernel⟩
set_option maxHeartbeats 4000000 in
theorem ok_Catalog__init__ {B : Bs} {f : Addr} {fd : FuncData} {a_is_feature : Addr} {fd_is_feature : FuncData} {a_InvalidCatalog__init__ : Addr} {fd_InvalidCatalog__init__ : FuncData} {t_MOST_FEATURES : Tok} (Fn : Fun B.K "__init__" "Catalog.__init__" (inClass (top 18) 0) f fd) (m_len : mg "len" = none) (F_InvalidCatalog__init__ : FnOk P w B.K mg base (L2.CX P w) 2 a_InvalidCatalog__init__ fd_InvalidCatalog__init__ ["self", "index"] (spX (B.ca "InvalidCatalog") ["index"])) (X_InvalidCatalog : OexC B.K (B.ca "InvalidCatalog")) (i_InvalidCatalog : PySem.W.findIn B.K (.ref (B.ca "InvalidCatalog")) "__init__" = some (some (.ref a_InvalidCatalog__init__))) (t_InvalidCatalog : PySem.W.typeIn B.K (.ref a_InvalidCatalog__init__) = some (.type "function")) (b_InvalidCatalog__init__ : Binds B.K fd_InvalidCatalog__init__ ["self", "index"] []) (m_InvalidCatalog : mg "InvalidCatalog" = some (.ref (B.ca "InvalidCatalog"))) (m_enumerate : mg "enumerate" = none) (m_MOST_FEATURES : mg "MOST_FEATURES" = some (.int 6 t_MOST_FEATURES)) (A_Catalog__features : Cls B.K (B.ca "Catalog") ∧ NoAttr B.K (B.ca "Catalog") "_features") (m_dict : mg "dict" = none) (A_Catalog__values : Cls B.K (B.ca "Catalog") ∧ NoAttr B.K (B.ca "Catalog") "_values") (F_is_feature : FnOk P w B.K mg base (L2.CX P w) 4 a_is_feature fd_is_feature ["name", "values"] (spD B 2 (g_is_feature B))) (m_is_feature : mg "is_feature" = some (.ref a_is_feature)) (k_is_feature : PySem.W.keepIn B.K (.ref a_is_feature) = true) (b_is_feature : Binds B.K fd_is_feature ["name", "values"] []) :
    FnOk P w B.K mg base (L2.CX P w) 5 f fd ["self", "features"] (spI B "Catalog" 1 (g_Catalog__init__ B)) := by
  refine init_ok Fn sc_Catalog__init__ rfl rfl fun cdv A outer s H E hr => ?_
  exact conv (pss_cons (ps_if (pt_cmpE (op_eqU (B := B) (hs := []) (k := 3) (neg := false) rfl rfl (takes_of rfl rfl rfl rfl) hr no_eq) (pe_callB (call_lenU (B := B) (hs := []) (k := 3) rfl hr no_hd) (by rfl) m_len (by decide +kernel) (pa_cons (pv 1) pa_nil)) (pe_int)) (pss_one (ps_raise rfl (takes_of rfl rfl rfl rfl) (pmk_oex X_InvalidCatalog i_InvalidCatalog t_InvalidCatalog (F_InvalidCatalog__init__.mono (by decide)) hr b_InvalidCatalog__init__ .nil passF (by rfl) m_InvalidCatalog (pa_cons (pe_int) pa_nil)))) pss_nil) (pss_cons (ps_set (i := 2) sc_Catalog__init__.nd rfl (Or.inl rfl) (pe_lst pa_nil)) (pss_cons (ps_for (passes_of rfl) rfl (pi_en (by rfl) m_enumerate (pa_cons (pv 1) pa_nil)) (pg_tup rfl (pgs_cons (pg_name (i := 3) sc_Catalog__init__.nd rfl (Or.inl rfl)) (pgs_cons (pg_tup rfl (pgs_cons (pg_name (i := 4) sc_Catalog__init__.nd rfl (Or.inl rfl)) (pgs_cons (pg_name (i := 5) sc_Catalog__init__.nd rfl (Or.inl rfl)) pgs_nil))) pgs_nil))) (pss_cons (ps_if (L2.PW.pt (pw_or (pt_cmpE (op_eqU (B := B) (hs := []) (k := 3) (neg := false) rfl rfl (takes_of rfl rfl rfl rfl) hr no_eq) (pv 3) (pe_glob (v := .int 6) (by rfl) m_MOST_FEATURES ⟨_, rfl⟩)) (pw_or (pt_cmpE (op_inU (B := B) (hs := []) (k := 4) (neg := false) rfl rfl (takes_of rfl rfl rfl rfl) hr no_hd) (pv 4) (pv 2)) (pw_or1 (pt_not (pt_val (pe_callS (F_is_feature.mono (by decide)) hr (by rfl) m_is_feature k_is_feature b_is_feature (passAt (takes_of rfl rfl rfl rfl)) (pa_cons (pv 4) (pa_cons (pv 5) pa_nil))))))))) (pss_one (ps_raise rfl (takes_of rfl rfl rfl rfl) (pmk_oex X_InvalidCatalog i_InvalidCatalog t_InvalidCatalog (F_InvalidCatalog__init__.mono (by decide)) hr b_InvalidCatalog__init__ .nil passF (by rfl) m_InvalidCatalog (pa_cons (pv 3) pa_nil)))) pss_nil) (pss_one (ps_expr (pe_bm PySem.F.plainAttrs_list PySem.F.slot_list_append PySem.F.type_list_append mt_append (pv 2) (pa_cons (pv 4) pa_nil)))))) (pss_cons (ps_setC (B := B) (c := "Catalog") rfl A_Catalog__features (pv 0) (pv 1) rfl) (pss_one (ps_setC (B := B) (c := "Catalog") rfl A_Catalog__values (pv 0) (pe_lk (pe_callTy (call_dictV (B := B) rfl rfl) (by rfl) m_dict (by decide +kernel) (pa_cons (pv 1) pa_nil))) rfl)))))) rfl
abbrev N_in_range_ : List Str := ["number", "least", "most"]
theorem sc_in_range : FnScope N_in_range_ ["number", "least", "most"] (defScope (top 28)) := ⟨rfl, rfl, rfl, by decide +kernel, rfl, by decide +kernel, by decide +kernel⟩
set_option maxHeartbeats 4000000 in
theorem ok_in_range {B : Bs} {f : Addr} {fd : FuncData}  (Fn : Fun B.K "in_range" "in_range" (top 28) f fd) (I_bool : ∀ X : Cx, X.K = B.K → IsiOk B X [.type "bool"] isi_bool) (m_bool : mg "bool" = none) (m_isinstance : mg "isinstance" = none) :
    FnOk P w B.K mg base (L2.CX P w) 3 f fd ["number", "least", "most"] (spD B 3 (g_in_range B)) := by
  refine fn_ok Fn sc_in_range (fun ds s _ => rfl) fun cdv A outer s H E hr => ?_
  exact conv (pss_one (ps_ret ((pe_and (pe_not (pe_isi (B := B) (f := isi_bool) rfl (I_bool _ rfl) (by rfl) m_isinstance (pv 0) (pe_bltn (v := .ty "bool") (by rfl) m_bool (by decide +kernel) rfl) (.ty _))) (pe_one (pe_chain (op_leU (B := B)) (op_leU (B := B)) (pv 1) (pv 0) (pv 2))))))) rfl
abbrev N_Thing__init___ : List Str := ["self", "note", "day"]
theorem sc_Thing__init__ : FnScope N_Thing__init___ ["self", "note", "day"] (defScope (inClass (top 29) 0)) := ⟨rfl, rfl, rfl, by decide +kernel, rfl, by decide +kernel, by decide +kernel⟩
set_option maxHeartbeats 4000000 in
theorem ok_Thing__init__ {B : Bs} {f : Addr} {fd : FuncData} {a_in_range : Addr} {fd_in_range : FuncData} {t_LAST_DAY : Tok} {a_InvalidEntry__init__ : Addr} {fd_InvalidEntry__init__ : FuncData} (Fn : Fun B.K "__init__" "Thing.__init__" (inClass (top 29) 0) f fd) (m_LAST_DAY : mg "LAST_DAY" = some (.int 1000000000000000000 t_LAST_DAY)) (F_InvalidEntry__init__ : FnOk P w B.K mg base (L2.CX P w) 2 a_InvalidEntry__init__ fd_InvalidEntry__init__ ["self", "part"] (spX (B.ca "InvalidEntry") ["part"])) (X_InvalidEntry : OexC B.K (B.ca "InvalidEntry")) (i_InvalidEntry : PySem.W.findIn B.K (.ref (B.ca "InvalidEntry")) "__init__" = some (some (.ref a_InvalidEntry__init__))) (t_InvalidEntry : PySem.W.typeIn B.K (.ref a_InvalidEntry__init__) = some (.type "function")) (b_InvalidEntry__init__ : Binds B.K fd_InvalidEntry__init__ ["self", "part"] []) (m_InvalidEntry : mg "InvalidEntry" = some (.ref (B.ca "InvalidEntry"))) (A_Thing__note : Cls B.K (B.ca "Thing") ∧ NoAttr B.K (B.ca "Thing") "_note") (A_Thing__day : Cls B.K (B.ca "Thing") ∧ NoAttr B.K (B.ca "Thing") "_day") (F_in_range : FnOk P w B.K mg base (L2.CX P w) 3 a_in_range fd_in_range ["number", "least", "most"] (spD B 3 (g_in_range B))) (m_in_range : mg "in_range" = some (.ref a_in_range)) (k_in_range : PySem.W.keepIn B.K (.ref a_in_range) = true) (b_in_range : Binds B.K fd_in_range ["number", "least", "most"] []) :
    FnOk P w B.K mg base (L2.CX P w) 4 f fd ["self", "note", "day"] (spI B "Thing" 2 (g_Thing__init__ B)) := by
  refine init_ok Fn sc_Thing__init__ rfl rfl fun cdv A outer s H E hr => ?_
  exact conv (pss_cons (ps_if (pt_not (pt_val (pe_callS (F_in_range.mono (by decide)) hr (by rfl) m_in_range k_in_range b_in_range (passAt (takes_of rfl rfl rfl rfl)) (pa_cons (pv 2) (pa_cons (pe_int) (pa_cons (pe_glob (v := .int 1000000000000000000) (by rfl) m_LAST_DAY ⟨_, rfl⟩) pa_nil)))))) (pss_one (ps_raise rfl (takes_of rfl rfl rfl rfl) (pmk_oex X_InvalidEntry i_InvalidEntry t_InvalidEntry (F_InvalidEntry__init__.mono (by decide)) hr b_InvalidEntry__init__ .nil passF (by rfl) m_InvalidEntry (pa_cons (pe_str) pa_nil)))) pss_nil) (pss_cons (ps_setC (B := B) (c := "Thing") rfl A_Thing__note (pv 0) (pv 1) rfl) (pss_one (ps_setC (B := B) (c := "Thing") rfl A_Thing__day (pv 0) (pv 2) rfl)))) rfl
abbrev N_Catalog__contains___ : List Str := ["self", "name"]
theorem sc_Catalog__contains__ : FnScope N_Catalog__contains___ ["self", "name"] (defScope (inClass (top 18) 5)) := ⟨rfl, rfl, rfl, by decide +kernel, rfl, by decide +kernel, by decide +kernel⟩
set_option maxHeartbeats 4000000 in
theorem ok_Catalog__contains__ {B : Bs} {f : Addr} {fd : FuncData}  (Fn : Fun B.K "__contains__" "Catalog.__contains__" (inClass (top 18) 5) f fd) (A_Catalog__values : Cls B.K (B.ca "Catalog") ∧ NoAttr B.K (B.ca "Catalog") "_values") :
    FnOk P w B.K mg base (L2.CX P w) 3 f fd ["self", "name"] (spD B 2 (g_Catalog__contains__ B)) := by
  refine fn_ok Fn sc_Catalog__contains__ (fun ds s _ => rfl) fun cdv A outer s H E hr => ?_
  exact conv (pss_one (ps_ret (pe_cmpE (op_inU (B := B) (hs := []) (k := 2) (neg := false) rfl rfl (takes_of rfl rfl rfl rfl) hr no_hd) (pv 1) (pe_atU (B := B) (k := 1) hr (at_cons (atF rfl A_Catalog__values) at_nil) (pv 0) (nox_of (at_cons (P := fun _ t => NoExA t) (g := .fld) True.intro at_nil)))))) rfl
abbrev N_Catalog_features_ : List Str := ["self"]
theorem sc_Catalog_features : FnScope N_Catalog_features_ ["self"] (defScope (inClass (top 18) 1)) := ⟨rfl, rfl, rfl, by decide +kernel, rfl, by decide +kernel, by decide +kernel⟩
set_option maxHeartbeats 4000000 in
theorem ok_Catalog_features {B : Bs} {f : Addr} {fd : FuncData}  (Fn : Fun B.K "features" "Catalog.features" (inClass (top 18) 1) f fd) (A_Catalog__features : Cls B.K (B.ca "Catalog") ∧ NoAttr B.K (B.ca "Catalog") "_features") :
    FnOk P w B.K mg base (L2.CX P w) 3 f fd ["self"] (spD B 1 (g_Catalog_features B)) := by
  refine fn_ok Fn sc_Catalog_features (fun ds s _ => rfl) fun cdv A outer s H E hr => ?_
  exact conv (pss_one (ps_ret (pe_atU (B := B) (k := 1) hr (at_cons (atF rfl A_Catalog__features) at_nil) (pv 0) (nox_of (at_cons (P := fun _ t => NoExA t) (g := .fld) True.intro at_nil))))) rfl
theorem N_Catalog_features {B : Bs} : NoExc (g_Catalog_features B) := noX_ret (noX_at noX_var)
abbrev N_is_choice_ : List Str := ["chosen", "values", "value"]
theorem sc_is_choice : FnScope N_is_choice_ ["chosen", "values"] (defScope (top 20)) := ⟨rfl, rfl, rfl, by decide +kernel, rfl, by decide +kernel, by decide +kernel⟩
set_option maxHeartbeats 4000000 in
theorem ok_is_choice {B : Bs} {f : Addr} {fd : FuncData} {a_ascends : Addr} {fd_ascends : FuncData} (Fn : Fun B.K "is_choice" "is_choice" (top 20) f fd) (m_len : mg "len" = none) (m_all : mg "all" = none) (F_ascends : FnOk P w B.K mg base (L2.CX P w) 3 a_ascends fd_ascends ["words"] (spD B 1 (g_ascends B))) (m_ascends : mg "ascends" = some (.ref a_ascends)) (k_ascends : PySem.W.keepIn B.K (.ref a_ascends) = true) (b_ascends : Binds B.K fd_ascends ["words"] []) :
    FnOk P w B.K mg base (L2.CX P w) 4 f fd ["chosen", "values"] (spD B 2 (g_is_choice B)) := by
  refine fn_ok Fn sc_is_choice (fun ds s _ => rfl) fun cdv A outer s H E hr => ?_
  exact conv (pss_one (ps_ret ((pe_and (pe_cmpR op_gt (pe_callB (call_lenU (B := B) (hs := []) (k := 2) rfl hr no_hd) (by rfl) m_len (by decide +kernel) (pa_cons (pv 0) pa_nil)) (pe_int) (nomark _)) (pe_and (pe_callS (F_ascends.mono (by decide)) hr (by rfl) m_ascends k_ascends b_ascends (passAt (takes_of rfl rfl rfl rfl)) (pa_cons (pv 0) pa_nil)) (pe_one (pe_callB (call_allU (B := B) rfl rfl) (by rfl) m_all (by decide +kernel) (pa_cons (pe_lc (own := [("value", 2)]) rfl sc_is_choice.nd (pi_wk (B := B) rfl (pv 0)) (blkOk_by (N := N_is_choice_) (sc := defScope (top 20)) (by decide +kernel)) (fun _ _ _ _ _ => (pg_name (i := 2) sc_is_choice.nd rfl (by first | exact Or.inl rfl | exact Or.inr rfl))) (fun _ _ _ _ _ => pts_nil) (fun _ _ _ _ _ => (pe_cmpE (op_inU (B := B) (hs := []) (k := 3) (neg := false) rfl rfl tkW0 hr no_hd) (pv 2) (pv 1)))) pa_nil)))))))) rfl
abbrev N_Note__init___ : List Str := ["self", "catalog", "told", "unknown", "name", "values"]
theorem sc_Note__init__ : FnScope N_Note__init___ ["self", "catalog", "told"] (defScope (inClass (top 22) 0)) := ⟨rfl, rfl, rfl, by decide +kernel, rfl, by decide +kernel, by decide +kernel⟩
set_option maxHeartbeats 4000000 in
theorem ok_Note__init__ {B : Bs} {f : Addr} {fd : FuncData} {a_is_choice : Addr} {fd_is_choice : FuncData} {a_InvalidNote__init__ : Addr} {fd_InvalidNote__init__ : FuncData} (Fn : Fun B.K "__init__" "Note.__init__" (inClass (top 22) 0) f fd) (M_Catalog__contains__ : OwnP B P w mg base 3 "__contains__" 2 "Catalog" (g_Catalog__contains__ B)) (m_len : mg "len" = none) (A_Catalog_features : AtP B P w mg base 3 "features" "Catalog" (g_Catalog_features B)) (F_InvalidNote__init__ : FnOk P w B.K mg base (L2.CX P w) 2 a_InvalidNote__init__ fd_InvalidNote__init__ ["self", "feature"] (spX (B.ca "InvalidNote") ["feature"])) (X_InvalidNote : OexC B.K (B.ca "InvalidNote")) (i_InvalidNote : PySem.W.findIn B.K (.ref (B.ca "InvalidNote")) "__init__" = some (some (.ref a_InvalidNote__init__))) (t_InvalidNote : PySem.W.typeIn B.K (.ref a_InvalidNote__init__) = some (.type "function")) (b_InvalidNote__init__ : Binds B.K fd_InvalidNote__init__ ["self", "feature"] []) (m_InvalidNote : mg "InvalidNote" = some (.ref (B.ca "InvalidNote"))) (A_Note__catalog : Cls B.K (B.ca "Note") ∧ NoAttr B.K (B.ca "Note") "_catalog") (A_Note__values : Cls B.K (B.ca "Note") ∧ NoAttr B.K (B.ca "Note") "_values") (F_is_choice : FnOk P w B.K mg base (L2.CX P w) 4 a_is_choice fd_is_choice ["chosen", "values"] (spD B 2 (g_is_choice B))) (m_is_choice : mg "is_choice" = some (.ref a_is_choice)) (k_is_choice : PySem.W.keepIn B.K (.ref a_is_choice) = true) (b_is_choice : Binds B.K fd_is_choice ["chosen", "values"] []) :
    FnOk P w B.K mg base (L2.CX P w) 5 f fd ["self", "catalog", "told"] (spI B "Note" 2 (g_Note__init__ B)) := by
  refine init_ok Fn sc_Note__init__ rfl rfl fun cdv A outer s H E hr => ?_
  exact conv (pss_cons (ps_setLc (i := 3) (y := "unknown") (own := [("name", 4)]) rfl sc_Note__init__.nd rfl rfl (sw_true rfl rfl rfl (by decide +kernel)) (pi_wk (B := B) rfl (pv 2)) (blkOk_by (N := N_Note__init___) (sc := defScope (inClass (top 22) 0)) (by decide +kernel)) (fun _ _ _ _ _ => (pg_name (i := 4) sc_Note__init__.nd rfl (by first | exact Or.inl rfl | exact Or.inr rfl))) (fun _ _ _ _ _ => (pts_one (pt_cmpE (op_inU (B := B) (hs := [("Catalog", g_Catalog__contains__ B)]) (k := 4) (neg := true) rfl rfl tkW0 hr (hd_cons (OwnP.at ((M_Catalog__contains__).mono (by decide)) rfl) no_hd)) (pv 4) (pv 1)))) (fun _ _ _ _ _ => (pv 4))) (pss_cons (ps_if (pt_cmpR op_gt (pe_callB (call_lenU (B := B) (hs := []) (k := 3) rfl hr no_hd) (by rfl) m_len (by decide +kernel) (pa_cons (pv 3) pa_nil)) (pe_int) (nomark _)) (pss_one (ps_never)) pss_nil) (pss_cons (ps_for (passes_of rfl) rfl (pi_wk (B := B) rfl (pe_atU (B := B) (k := 3) hr (at_cons (atM rfl ((A_Catalog_features).mono (by decide))) at_nil) (pv 1) (nox_of (at_cons (P := fun _ t => NoExA t) (g := .prop (g_Catalog_features B)) N_Catalog_features at_nil)))) (pg_tup rfl (pgs_cons (pg_name (i := 4) sc_Note__init__.nd rfl (Or.inl rfl)) (pgs_cons (pg_name (i := 5) sc_Note__init__.nd rfl (Or.inl rfl)) pgs_nil))) (pss_one (ps_if (L2.PW.pt (pw_and (pt_cmpE (op_inU (B := B) (hs := [("Catalog", g_Catalog__contains__ B)]) (k := 4) (neg := false) rfl rfl (takes_of rfl rfl rfl rfl) hr (hd_cons (OwnP.at ((M_Catalog__contains__).mono (by decide)) rfl) no_hd)) (pv 4) (pv 2)) (pw_and1 (pt_not (pt_val (pe_callS (F_is_choice.mono (by decide)) hr (by rfl) m_is_choice k_is_choice b_is_choice (passAt (takes_of rfl rfl rfl rfl)) (pa_cons (pe_ixU (B := B) (k := 3) rfl (takes_of rfl rfl rfl rfl) hr no_hd (pv 2) (pv 4) (fun _ _ => rfl)) (pa_cons (pv 5) pa_nil)))))))) (pss_one (ps_raise rfl (takes_of rfl rfl rfl rfl) (pmk_oex X_InvalidNote i_InvalidNote t_InvalidNote (F_InvalidNote__init__.mono (by decide)) hr b_InvalidNote__init__ .nil passF (by rfl) m_InvalidNote (pa_cons (pv 4) pa_nil)))) pss_nil))) (pss_cons (ps_setC (B := B) (c := "Note") rfl A_Note__catalog (pv 0) (pv 1) rfl) (pss_one (ps_setC (B := B) (c := "Note") rfl A_Note__values (pv 0) (pe_lk (pe_dc (own := [("name", 4), ("values", 5)]) rfl sc_Note__init__.nd (pi_wk (B := B) rfl (pe_atU (B := B) (k := 3) hr (at_cons (atM rfl ((A_Catalog_features).mono (by decide))) at_nil) (pv 1) (nox_of (at_cons (P := fun _ t => NoExA t) (g := .prop (g_Catalog_features B)) N_Catalog_features at_nil)))) (blkOk_by (N := N_Note__init___) (sc := defScope (inClass (top 22) 0)) (by decide +kernel)) (fun _ _ _ _ _ => (pg_tup rfl (pgs_cons (pg_name (i := 4) sc_Note__init__.nd rfl (by first | exact Or.inl rfl | exact Or.inr rfl)) (pgs_cons (pg_name (i := 5) sc_Note__init__.nd rfl (by first | exact Or.inl rfl | exact Or.inr rfl)) pgs_nil)))) (fun _ _ _ _ _ => pts_nil) (fun _ _ _ _ _ => (pv 4)) (fun _ _ _ _ _ => (pe_dget2 (hu_of hr) (pv 2) (pv 4) (pv 5) ⟨rfl, rfl, rfl, rfl⟩)))) rfl)))))) rfl
abbrev N__law_note_ : List Str := ["_law_catalog", "_law_features_here", "_law_sets_here", "_law_name", "_law_words"]
theorem sc__law_note : FnScope N__law_note_ ["_law_catalog", "_law_features_here", "_law_sets_here"] (defScope (top 51)) := ⟨rfl, rfl, rfl, by decide +kernel, rfl, by decide +kernel, by decide +kernel⟩
set_option maxHeartbeats 4000000 in
theorem ok__law_note {B : Bs} {f : Addr} {fd : FuncData} {a_Note__init__ : Addr} {fd_Note__init__ : FuncData} (Fn : Fun B.K "_law_note" "_law_note" (top 51) f fd) (m_dict : mg "dict" = none) (K_Note : Mk B.K (B.ca "Note") a_Note__init__) (m_Note : mg "Note" = some (.ref (B.ca "Note"))) (b_Note__init__ : Binds B.K fd_Note__init__ ["self", "catalog", "told"] []) (F_Note__init__ : FnOk P w B.K mg base (L2.CX P w) 5 a_Note__init__ fd_Note__init__ ["self", "catalog", "told"] (spI B "Note" 2 (g_Note__init__ B))) :
    FnOk P w B.K mg base (L2.CX P w) 7 f fd ["_law_catalog", "_law_features_here", "_law_sets_here"] (spD B 3 (g__law_note B)) := by
  refine fn_ok Fn sc__law_note (fun ds s _ => rfl) fun cdv A outer s H E hr => ?_
  exact conv (pss_one (ps_ret (pe_makeU (B := B) (k := 5) rfl (takes_of rfl rfl rfl rfl) K_Note (F_Note__init__.mono (by decide)) hr (by rfl) m_Note b_Note__init__ (pa_cons (pv 0) (pa_cons (pe_lk (pe_callTy (call_dictV (B := B) rfl rfl) (by rfl) m_dict (by decide +kernel) (pa_cons (pe_lc (own := [("_law_name", 3), ("_law_words", 4)]) rfl sc__law_note.nd (pi_wk (B := B) rfl (pv 1)) (blkOk_by (N := N__law_note_) (sc := defScope (top 51)) (by decide +kernel)) (fun _ _ _ _ _ => (pg_tup rfl (pgs_cons (pg_name (i := 3) sc__law_note.nd rfl (by first | exact Or.inl rfl | exact Or.inr rfl)) (pgs_cons (pg_name (i := 4) sc__law_note.nd rfl (by first | exact Or.inl rfl | exact Or.inr rfl)) pgs_nil)))) (fun _ _ _ _ _ => (pts_one (pt_cmpE (op_eqU (B := B) (hs := []) (k := 5) (neg := true) rfl rfl tkW0 hr no_eq) (pe_ixU (B := B) (k := 5) rfl tkW0 hr no_hd (pv 2) (pv 3) (fun _ _ => rfl)) (pv 4)))) (fun _ _ _ _ _ => (pe_tupP (pa_cons (pv 3) (pa_cons (pe_ixU (B := B) (k := 5) rfl tkW0 hr no_hd (pv 2) (pv 3) (fun _ _ => rfl)) pa_nil))))) pa_nil))) pa_nil))))) rfl
abbrev N_Claim__init___ : List Str := ["self", "note", "day", "slips", "worth"]
theorem sc_Claim__init__ : FnScope N_Claim__init___ ["self", "note", "day", "slips", "worth"] (defScope (inClass (top 30) 0)) := ⟨rfl, rfl, rfl, by decide +kernel, rfl, by decide +kernel, by decide +kernel⟩
set_option maxHeartbeats 4000000 in
theorem ok_Claim__init__ {B : Bs} {f : Addr} {fd : FuncData} {a_in_range : Addr} {fd_in_range : FuncData} {t_LAST_DAY : Tok} {a_InvalidEntry__init__ : Addr} {fd_InvalidEntry__init__ : FuncData} {t_MOST_SLIPS : Tok} {t_MOST_WORTH : Tok} (Fn : FunU B.K "__init__" "Claim.__init__" (inClass (top 30) 0) f fd 2) (m_LAST_DAY : mg "LAST_DAY" = some (.int 1000000000000000000 t_LAST_DAY)) (F_InvalidEntry__init__ : FnOk P w B.K mg base (L2.CX P w) 2 a_InvalidEntry__init__ fd_InvalidEntry__init__ ["self", "part"] (spX (B.ca "InvalidEntry") ["part"])) (X_InvalidEntry : OexC B.K (B.ca "InvalidEntry")) (i_InvalidEntry : PySem.W.findIn B.K (.ref (B.ca "InvalidEntry")) "__init__" = some (some (.ref a_InvalidEntry__init__))) (t_InvalidEntry : PySem.W.typeIn B.K (.ref a_InvalidEntry__init__) = some (.type "function")) (b_InvalidEntry__init__ : Binds B.K fd_InvalidEntry__init__ ["self", "part"] []) (m_InvalidEntry : mg "InvalidEntry" = some (.ref (B.ca "InvalidEntry"))) (m_MOST_SLIPS : mg "MOST_SLIPS" = some (.int 2 t_MOST_SLIPS)) (m_MOST_WORTH : mg "MOST_WORTH" = some (.int 1000000000 t_MOST_WORTH)) (A_Claim__note : Cls B.K (B.ca "Claim") ∧ NoAttr B.K (B.ca "Claim") "_note") (A_Claim__day : Cls B.K (B.ca "Claim") ∧ NoAttr B.K (B.ca "Claim") "_day") (A_Claim__slips : Cls B.K (B.ca "Claim") ∧ NoAttr B.K (B.ca "Claim") "_slips") (A_Claim__worth : Cls B.K (B.ca "Claim") ∧ NoAttr B.K (B.ca "Claim") "_worth") (F_in_range : FnOk P w B.K mg base (L2.CX P w) 3 a_in_range fd_in_range ["number", "least", "most"] (spD B 3 (g_in_range B))) (m_in_range : mg "in_range" = some (.ref a_in_range)) (k_in_range : PySem.W.keepIn B.K (.ref a_in_range) = true) (b_in_range : Binds B.K fd_in_range ["number", "least", "most"] []) :
    FnOk P w B.K mg base (L2.CX P w) 4 f fd ["self", "note", "day", "slips", "worth"] (spI B "Claim" 4 (g_Claim__init__ B)) := by
  refine init_okU Fn sc_Claim__init__ rfl rfl fun cdv A outer s H E hr => ?_
  exact conv (pss_cons (ps_if (pt_not (pt_val (pe_callS (F_in_range.mono (by decide)) hr (by rfl) m_in_range k_in_range b_in_range (passAt (takes_of rfl rfl rfl rfl)) (pa_cons (pv 2) (pa_cons (pe_int) (pa_cons (pe_glob (v := .int 1000000000000000000) (by rfl) m_LAST_DAY ⟨_, rfl⟩) pa_nil)))))) (pss_one (ps_raise rfl (takes_of rfl rfl rfl rfl) (pmk_oex X_InvalidEntry i_InvalidEntry t_InvalidEntry (F_InvalidEntry__init__.mono (by decide)) hr b_InvalidEntry__init__ .nil passF (by rfl) m_InvalidEntry (pa_cons (pe_str) pa_nil)))) pss_nil) (pss_cons (ps_if (pt_not (pt_val (pe_callS (F_in_range.mono (by decide)) hr (by rfl) m_in_range k_in_range b_in_range (passAt (takes_of rfl rfl rfl rfl)) (pa_cons (pv 3) (pa_cons (pe_int) (pa_cons (pe_glob (v := .int 2) (by rfl) m_MOST_SLIPS ⟨_, rfl⟩) pa_nil)))))) (pss_one (ps_raise rfl (takes_of rfl rfl rfl rfl) (pmk_oex X_InvalidEntry i_InvalidEntry t_InvalidEntry (F_InvalidEntry__init__.mono (by decide)) hr b_InvalidEntry__init__ .nil passF (by rfl) m_InvalidEntry (pa_cons (pe_str) pa_nil)))) pss_nil) (pss_cons (ps_if (pt_not (pt_val (pe_callS (F_in_range.mono (by decide)) hr (by rfl) m_in_range k_in_range b_in_range (passAt (takes_of rfl rfl rfl rfl)) (pa_cons (pv 4) (pa_cons (pe_int) (pa_cons (pe_glob (v := .int 1000000000) (by rfl) m_MOST_WORTH ⟨_, rfl⟩) pa_nil)))))) (pss_one (ps_raise rfl (takes_of rfl rfl rfl rfl) (pmk_oex X_InvalidEntry i_InvalidEntry t_InvalidEntry (F_InvalidEntry__init__.mono (by decide)) hr b_InvalidEntry__init__ .nil passF (by rfl) m_InvalidEntry (pa_cons (pe_str) pa_nil)))) pss_nil) (pss_cons (ps_setC (B := B) (c := "Claim") rfl A_Claim__note (pv 0) (pv 1) rfl) (pss_cons (ps_setC (B := B) (c := "Claim") rfl A_Claim__day (pv 0) (pv 2) rfl) (pss_cons (ps_setC (B := B) (c := "Claim") rfl A_Claim__slips (pv 0) (pv 3) rfl) (pss_one (ps_setC (B := B) (c := "Claim") rfl A_Claim__worth (pv 0) (pv 4) rfl)))))))) rfl
abbrev N_Claim_note_ : List Str := ["self"]
theorem sc_Claim_note : FnScope N_Claim_note_ ["self"] (defScope (inClass (top 30) 1)) := ⟨rfl, rfl, rfl, by decide +kernel, rfl, by decide +kernel, by decide +kernel⟩
set_option maxHeartbeats 4000000 in
theorem ok_Claim_note {B : Bs} {f : Addr} {fd : FuncData}  (Fn : Fun B.K "note" "Claim.note" (inClass (top 30) 1) f fd) (A_Claim__note : Cls B.K (B.ca "Claim") ∧ NoAttr B.K (B.ca "Claim") "_note") :
    FnOk P w B.K mg base (L2.CX P w) 3 f fd ["self"] (spD B 1 (g_Claim_note B)) := by
  refine fn_ok Fn sc_Claim_note (fun ds s _ => rfl) fun cdv A outer s H E hr => ?_
  exact conv (pss_one (ps_ret (pe_atU (B := B) (k := 1) hr (at_cons (atF rfl A_Claim__note) at_nil) (pv 0) (nox_of (at_cons (P := fun _ t => NoExA t) (g := .fld) True.intro at_nil))))) rfl
theorem N_Claim_note {B : Bs} : NoExc (g_Claim_note B) := noX_ret (noX_at noX_var)
abbrev N_Thing_note_ : List Str := ["self"]
theorem sc_Thing_note : FnScope N_Thing_note_ ["self"] (defScope (inClass (top 29) 1)) := ⟨rfl, rfl, rfl, by decide +kernel, rfl, by decide +kernel, by decide +kernel⟩
set_option maxHeartbeats 4000000 in
theorem ok_Thing_note {B : Bs} {f : Addr} {fd : FuncData}  (Fn : Fun B.K "note" "Thing.note" (inClass (top 29) 1) f fd) (A_Thing__note : Cls B.K (B.ca "Thing") ∧ NoAttr B.K (B.ca "Thing") "_note") :
    FnOk P w B.K mg base (L2.CX P w) 3 f fd ["self"] (spD B 1 (g_Thing_note B)) := by
  refine fn_ok Fn sc_Thing_note (fun ds s _ => rfl) fun cdv A outer s H E hr => ?_
  exact conv (pss_one (ps_ret (pe_atU (B := B) (k := 1) hr (at_cons (atF rfl A_Thing__note) at_nil) (pv 0) (nox_of (at_cons (P := fun _ t => NoExA t) (g := .fld) True.intro at_nil))))) rfl
theorem N_Thing_note {B : Bs} : NoExc (g_Thing_note B) := noX_ret (noX_at noX_var)
abbrev N_Note_catalog_ : List Str := ["self"]
theorem sc_Note_catalog : FnScope N_Note_catalog_ ["self"] (defScope (inClass (top 22) 1)) := ⟨rfl, rfl, rfl, by decide +kernel, rfl, by decide +kernel, by decide +kernel⟩
set_option maxHeartbeats 4000000 in
theorem ok_Note_catalog {B : Bs} {f : Addr} {fd : FuncData}  (Fn : Fun B.K "catalog" "Note.catalog" (inClass (top 22) 1) f fd) (A_Note__catalog : Cls B.K (B.ca "Note") ∧ NoAttr B.K (B.ca "Note") "_catalog") :
    FnOk P w B.K mg base (L2.CX P w) 3 f fd ["self"] (spD B 1 (g_Note_catalog B)) := by
  refine fn_ok Fn sc_Note_catalog (fun ds s _ => rfl) fun cdv A outer s H E hr => ?_
  exact conv (pss_one (ps_ret (pe_atU (B := B) (k := 1) hr (at_cons (atF rfl A_Note__catalog) at_nil) (pv 0) (nox_of (at_cons (P := fun _ t => NoExA t) (g := .fld) True.intro at_nil))))) rfl
theorem N_Note_catalog {B : Bs} : NoExc (g_Note_catalog B) := noX_ret (noX_at noX_var)
abbrev N_Catalog__eq___ : List Str := ["self", "other"]
theorem sc_Catalog__eq__ : FnScope N_Catalog__eq___ ["self", "other"] (defScope (inClass (top 18) 7)) := ⟨rfl, rfl, rfl, by decide +kernel, rfl, by decide +kernel, by decide +kernel⟩
set_option maxHeartbeats 4000000 in
theorem ok_Catalog__eq__ {B : Bs} {f : Addr} {fd : FuncData}  (Fn : Fun B.K "__eq__" "Catalog.__eq__" (inClass (top 18) 7) f fd) (I_Catalog : ∀ X : Cx, X.K = B.K → IsiOk B X [.ref (B.ca "Catalog")] isi_Catalog) (m_Catalog : mg "Catalog" = some (.ref (B.ca "Catalog"))) (m_isinstance : mg "isinstance" = none) (A_Catalog__features : Cls B.K (B.ca "Catalog") ∧ NoAttr B.K (B.ca "Catalog") "_features") :
    FnOk P w B.K mg base (L2.CX P w) 3 f fd ["self", "other"] (spD B 2 (g_Catalog__eq__ B)) := by
  refine fn_ok Fn sc_Catalog__eq__ (fun ds s _ => rfl) fun cdv A outer s H E hr => ?_
  exact conv (pss_one (ps_ret ((pe_and (pe_isi (B := B) (f := isi_Catalog) rfl (I_Catalog _ rfl) (by rfl) m_isinstance (pv 1) (pe_glob (v := .ref (B.ca "Catalog")) (by rfl) m_Catalog rfl) (.own _)) (pe_one (pe_cmpE (op_eqU (B := B) (hs := []) (k := 1) (neg := false) rfl rfl (takes_of rfl rfl rfl rfl) hr no_eq) (pe_atU (B := B) (k := 1) hr (at_cons (atF rfl A_Catalog__features) at_nil) (pv 0) (nox_of (at_cons (P := fun _ t => NoExA t) (g := .fld) True.intro at_nil))) (pe_atU (B := B) (k := 1) hr (at_cons (atF rfl A_Catalog__features) at_nil) (pv 1) (nox_of (at_cons (P := fun _ t => NoExA t) (g := .fld) True.intro at_nil))))))))) rfl
abbrev N_check_entries_ : List Str := ["part", "catalog", "entries", "taken", "labels", "label"]
theorem sc_check_entries : FnScope N_check_entries_ ["part", "catalog", "entries", "taken"] (defScope (top 31)) := ⟨rfl, rfl, rfl, by decide +kernel, rfl, by decide +kernel, by decide +kernel⟩
set_option maxHeartbeats 4000000 in
theorem ok_check_entries {B : Bs} {f : Addr} {fd : FuncData} {a_is_word : Addr} {fd_is_word : FuncData} {a_InvalidOffice__init__ : Addr} {fd_InvalidOffice__init__ : FuncData} {t_MOST_ENTRIES : Tok} (Fn : Fun B.K "check_entries" "check_entries" (top 31) f fd) (m_sorted : mg "sorted" = none) (A_Claim_note : AtP B P w mg base 3 "note" "Claim" (g_Claim_note B)) (A_Thing_note : AtP B P w mg base 3 "note" "Thing" (g_Thing_note B)) (A_Note_catalog : AtP B P w mg base 3 "catalog" "Note" (g_Note_catalog B)) (M_Catalog__eq__ : OwnP B P w mg base 3 "__eq__" 2 "Catalog" (g_Catalog__eq__ B)) (E_Catalog : PySem.W.findIn B.K (.ref (B.ca "Catalog")) "__ne__" = some (some (.builtin "object.__ne__")) ∧ PySem.W.mroIn B.K (B.ca "Catalog") (.type "object") = some true) (F_InvalidOffice__init__ : FnOk P w B.K mg base (L2.CX P w) 2 a_InvalidOffice__init__ fd_InvalidOffice__init__ ["self", "part", "label"] (spX (B.ca "InvalidOffice") ["part", "label"])) (X_InvalidOffice : OexC B.K (B.ca "InvalidOffice")) (i_InvalidOffice : PySem.W.findIn B.K (.ref (B.ca "InvalidOffice")) "__init__" = some (some (.ref a_InvalidOffice__init__))) (t_InvalidOffice : PySem.W.typeIn B.K (.ref a_InvalidOffice__init__) = some (.type "function")) (b_InvalidOffice__init__ : Binds B.K fd_InvalidOffice__init__ ["self", "part", "label"] []) (m_InvalidOffice : mg "InvalidOffice" = some (.ref (B.ca "InvalidOffice"))) (m_len : mg "len" = none) (m_MOST_ENTRIES : mg "MOST_ENTRIES" = some (.int 8 t_MOST_ENTRIES)) (F_is_word : FnOk P w B.K mg base (L2.CX P w) 3 a_is_word fd_is_word ["text"] (spD B 1 (g_is_word B))) (m_is_word : mg "is_word" = some (.ref a_is_word)) (k_is_word : PySem.W.keepIn B.K (.ref a_is_word) = true) (b_is_word : Binds B.K fd_is_word ["text"] []) :
    FnOk P w B.K mg base (L2.CX P w) 5 f fd ["part", "catalog", "entries", "taken"] (spD B 4 (g_check_entries B)) := by
  refine fn_ok Fn sc_check_entries (fun ds s _ => rfl) fun cdv A outer s H E hr => ?_
  exact conv (pss_cons (ps_set (i := 4) sc_check_entries.nd rfl (Or.inl rfl) (pe_callB (call_srtU (B := B) rfl rfl) (by rfl) m_sorted (by decide +kernel) (pa_cons (pv 2) pa_nil))) (pss_cons (ps_for (passes_of rfl) rfl (pi_wk (B := B) rfl (pv 4)) (pg_name (i := 5) sc_check_entries.nd rfl (Or.inl rfl)) (pss_one (ps_if (L2.PW.pt (pw_or (pt_not (pt_val (pe_callS (F_is_word.mono (by decide)) hr (by rfl) m_is_word k_is_word b_is_word (passAt (takes_of rfl rfl rfl rfl)) (pa_cons (pv 5) pa_nil)))) (pw_or (pt_cmpE (op_eqU (B := B) (hs := [("Catalog", g_Catalog__eq__ B)]) (k := 3) (neg := true) rfl rfl (takes_of rfl rfl rfl rfl) hr (hd_cons (eqM rfl ((M_Catalog__eq__).mono (by decide)) E_Catalog) no_eq)) (pe_atU (B := B) (k := 3) hr (at_cons (atM rfl ((A_Note_catalog).mono (by decide))) at_nil) (pe_atU (B := B) (k := 3) hr (at_cons (atM rfl ((A_Thing_note).mono (by decide))) (at_cons (atM rfl ((A_Claim_note).mono (by decide))) at_nil)) (pe_ixU (B := B) (k := 3) rfl (takes_of rfl rfl rfl rfl) hr no_hd (pv 2) (pv 5) (fun _ _ => rfl)) (nox_of (at_cons (P := fun _ t => NoExA t) (g := .prop (g_Thing_note B)) N_Thing_note (at_cons (P := fun _ t => NoExA t) (g := .prop (g_Claim_note B)) N_Claim_note at_nil)))) (nox_of (at_cons (P := fun _ t => NoExA t) (g := .prop (g_Note_catalog B)) N_Note_catalog at_nil))) (pv 1)) (pw_or1 (pt_cmpE (op_inU (B := B) (hs := []) (k := 4) (neg := false) rfl rfl (takes_of rfl rfl rfl rfl) hr no_hd) (pv 5) (pv 3)))))) (pss_one (ps_raise rfl (takes_of rfl rfl rfl rfl) (pmk_oex X_InvalidOffice i_InvalidOffice t_InvalidOffice (F_InvalidOffice__init__.mono (by decide)) hr b_InvalidOffice__init__ .nil passF (by rfl) m_InvalidOffice (pa_cons (pv 0) (pa_cons (pv 5) pa_nil))))) pss_nil))) (pss_one (ps_if (pt_cmpR op_gt (pe_callB (call_lenU (B := B) (hs := []) (k := 3) rfl hr no_hd) (by rfl) m_len (by decide +kernel) (pa_cons (pv 4) pa_nil)) (pe_glob (v := .int 8) (by rfl) m_MOST_ENTRIES ⟨_, rfl⟩) (nomark _)) (pss_one (ps_raise rfl (takes_of rfl rfl rfl rfl) (pmk_oex X_InvalidOffice i_InvalidOffice t_InvalidOffice (F_InvalidOffice__init__.mono (by decide)) hr b_InvalidOffice__init__ .nil passF (by rfl) m_InvalidOffice (pa_cons (pv 0) (pa_cons (pe_ixU (B := B) (k := 3) rfl (takes_of rfl rfl rfl rfl) hr no_hd (pv 4) (pe_glob (v := .int 8) (by rfl) m_MOST_ENTRIES ⟨_, rfl⟩) (fun _ _ => rfl)) pa_nil))))) pss_nil)))) rfl
abbrev N_in_order_ : List Str := ["entries", "label"]
theorem sc_in_order : FnScope N_in_order_ ["entries"] (defScope (top 32)) := ⟨rfl, rfl, rfl, by decide +kernel, rfl, by decide +kernel, by decide +kernel⟩
set_option maxHeartbeats 4000000 in
theorem ok_in_order {B : Bs} {f : Addr} {fd : FuncData}  (Fn : Fun B.K "in_order" "in_order" (top 32) f fd) (m_sorted : mg "sorted" = none) :
    FnOk P w B.K mg base (L2.CX P w) 3 f fd ["entries"] (spD B 1 (g_in_order B)) := by
  refine fn_ok Fn sc_in_order (fun ds s _ => rfl) fun cdv A outer s H E hr => ?_
  exact conv (pss_one (ps_ret (pe_lk (pe_dc (own := [("label", 1)]) rfl sc_in_order.nd (pi_wk (B := B) rfl (pe_callB (call_srtU (B := B) rfl rfl) (by rfl) m_sorted (by decide +kernel) (pa_cons (pv 0) pa_nil))) (blkOk_by (N := N_in_order_) (sc := defScope (top 32)) (by decide +kernel)) (fun _ _ _ _ _ => (pg_name (i := 1) sc_in_order.nd rfl (by first | exact Or.inl rfl | exact Or.inr rfl))) (fun _ _ _ _ _ => pts_nil) (fun _ _ _ _ _ => (pv 1)) (fun _ _ _ _ _ => (pe_ixU (B := B) (k := 1) rfl tkW0 hr no_hd (pv 0) (pv 1) (fun _ _ => rfl))))))) rfl
abbrev N_Office__init___ : List Str := ["self", "catalog", "things", "claims"]
theorem sc_Office__init__ : FnScope N_Office__init___ ["self", "catalog", "things", "claims"] (defScope (inClass (top 34) 0)) := ⟨rfl, rfl, rfl, by decide +kernel, rfl, by decide +kernel, by decide +kernel⟩
set_option maxHeartbeats 4000000 in
theorem ok_Office__init__ {B : Bs} {f : Addr} {fd : FuncData} {a_check_entries : Addr} {fd_check_entries : FuncData} {a_in_order : Addr} {fd_in_order : FuncData} (Fn : Fun B.K "__init__" "Office.__init__" (inClass (top 34) 0) f fd) (A_Office__catalog : Cls B.K (B.ca "Office") ∧ NoAttr B.K (B.ca "Office") "_catalog") (A_Office__things : Cls B.K (B.ca "Office") ∧ NoAttr B.K (B.ca "Office") "_things") (A_Office__claims : Cls B.K (B.ca "Office") ∧ NoAttr B.K (B.ca "Office") "_claims") (F_check_entries : FnOk P w B.K mg base (L2.CX P w) 5 a_check_entries fd_check_entries ["part", "catalog", "entries", "taken"] (spD B 4 (g_check_entries B))) (m_check_entries : mg "check_entries" = some (.ref a_check_entries)) (k_check_entries : PySem.W.keepIn B.K (.ref a_check_entries) = true) (b_check_entries : Binds B.K fd_check_entries ["part", "catalog", "entries", "taken"] []) (F_in_order : FnOk P w B.K mg base (L2.CX P w) 3 a_in_order fd_in_order ["entries"] (spD B 1 (g_in_order B))) (m_in_order : mg "in_order" = some (.ref a_in_order)) (k_in_order : PySem.W.keepIn B.K (.ref a_in_order) = true) (b_in_order : Binds B.K fd_in_order ["entries"] []) :
    FnOk P w B.K mg base (L2.CX P w) 6 f fd ["self", "catalog", "things", "claims"] (spI B "Office" 3 (g_Office__init__ B)) := by
  refine init_ok Fn sc_Office__init__ rfl rfl fun cdv A outer s H E hr => ?_
  exact conv (pss_cons (ps_expr (pe_callS (F_check_entries.mono (by decide)) hr (by rfl) m_check_entries k_check_entries b_check_entries (passAt (takes_of rfl rfl rfl rfl)) (pa_cons (pe_str) (pa_cons (pv 1) (pa_cons (pv 2) (pa_cons (pe_lk pe_dnewK) pa_nil)))))) (pss_cons (ps_expr (pe_callS (F_check_entries.mono (by decide)) hr (by rfl) m_check_entries k_check_entries b_check_entries (passAt (takes_of rfl rfl rfl rfl)) (pa_cons (pe_str) (pa_cons (pv 1) (pa_cons (pv 3) (pa_cons (pv 2) pa_nil)))))) (pss_cons (ps_setC (B := B) (c := "Office") rfl A_Office__catalog (pv 0) (pv 1) rfl) (pss_cons (ps_setC (B := B) (c := "Office") rfl A_Office__things (pv 0) (pe_callS (F_in_order.mono (by decide)) hr (by rfl) m_in_order k_in_order b_in_order (passAt (takes_of rfl rfl rfl rfl)) (pa_cons (pv 2) pa_nil)) rfl) (pss_one (ps_setC (B := B) (c := "Office") rfl A_Office__claims (pv 0) (pe_callS (F_in_order.mono (by decide)) hr (by rfl) m_in_order k_in_order b_in_order (passAt (takes_of rfl rfl rfl rfl)) (pa_cons (pv 3) pa_nil)) rfl)))))) rfl
abbrev N__law_office_ : List Str := ["_law_drawn_here", "_law_features_here", "_law_found", "_law_lost", "_law_catalog", "_law_things", "_law_claims", "_law_label", "_law_sets_here", "_law_day", "_law_slip", "_law_value"]
theorem sc__law_office : FnScope N__law_office_ ["_law_drawn_here"] (defScope (top 52)) := ⟨rfl, rfl, rfl, by decide +kernel, rfl, by decide +kernel, by decide +kernel⟩
set_option maxHeartbeats 4000000 in
theorem ok__law_office {B : Bs} {f : Addr} {fd : FuncData} {a_Catalog__init__ : Addr} {fd_Catalog__init__ : FuncData} {a__law_note : Addr} {fd__law_note : FuncData} {a_Thing__init__ : Addr} {fd_Thing__init__ : FuncData} {a_Claim__init__ : Addr} {fd_Claim__init__ : FuncData} {a_Office__init__ : Addr} {fd_Office__init__ : FuncData} (Fn : Fun B.K "_law_office" "_law_office" (top 52) f fd) (K_Catalog : Mk B.K (B.ca "Catalog") a_Catalog__init__) (m_Catalog : mg "Catalog" = some (.ref (B.ca "Catalog"))) (b_Catalog__init__ : Binds B.K fd_Catalog__init__ ["self", "features"] []) (K_Thing : Mk B.K (B.ca "Thing") a_Thing__init__) (m_Thing : mg "Thing" = some (.ref (B.ca "Thing"))) (b_Thing__init__ : Binds B.K fd_Thing__init__ ["self", "note", "day"] []) (K_Claim : Mk B.K (B.ca "Claim") a_Claim__init__) (m_Claim : mg "Claim" = some (.ref (B.ca "Claim"))) (b_Claim__init__ : Binds B.K fd_Claim__init__ ["self", "note", "day", "slips", "worth"] []) (K_Office : Mk B.K (B.ca "Office") a_Office__init__) (m_Office : mg "Office" = some (.ref (B.ca "Office"))) (b_Office__init__ : Binds B.K fd_Office__init__ ["self", "catalog", "things", "claims"] []) (F_Catalog__init__ : FnOk P w B.K mg base (L2.CX P w) 5 a_Catalog__init__ fd_Catalog__init__ ["self", "features"] (spI B "Catalog" 1 (g_Catalog__init__ B))) (F__law_note : FnOk P w B.K mg base (L2.CX P w) 7 a__law_note fd__law_note ["_law_catalog", "_law_features_here", "_law_sets_here"] (spD B 3 (g__law_note B))) (m__law_note : mg "_law_note" = some (.ref a__law_note)) (k__law_note : PySem.W.keepIn B.K (.ref a__law_note) = true) (b__law_note : Binds B.K fd__law_note ["_law_catalog", "_law_features_here", "_law_sets_here"] []) (F_Thing__init__ : FnOk P w B.K mg base (L2.CX P w) 4 a_Thing__init__ fd_Thing__init__ ["self", "note", "day"] (spI B "Thing" 2 (g_Thing__init__ B))) (F_Claim__init__ : FnOk P w B.K mg base (L2.CX P w) 4 a_Claim__init__ fd_Claim__init__ ["self", "note", "day", "slips", "worth"] (spI B "Claim" 4 (g_Claim__init__ B))) (F_Office__init__ : FnOk P w B.K mg base (L2.CX P w) 6 a_Office__init__ fd_Office__init__ ["self", "catalog", "things", "claims"] (spI B "Office" 3 (g_Office__init__ B))) :
    FnOk P w B.K mg base (L2.CX P w) 8 f fd ["_law_drawn_here"] (spD B 1 (g__law_office B)) := by
  refine fn_ok Fn sc__law_office (fun ds s _ => rfl) fun cdv A outer s H E hr => ?_
  exact conv (pss_cons (ps_asg (pv 0) (pg_tup rfl (pgs_cons (pg_name (i := 1) sc__law_office.nd rfl (Or.inl rfl)) (pgs_cons (pg_name (i := 2) sc__law_office.nd rfl (Or.inl rfl)) (pgs_cons (pg_name (i := 3) sc__law_office.nd rfl (Or.inl rfl)) pgs_nil))))) (pss_cons (ps_par3 (i := 4) (j := 5) (l := 6) rfl sc__law_office.nd rfl rfl rfl (by decide) (by decide) (by decide) rfl rfl rfl (pa_cons (pe_makeU (B := B) (k := 6) rfl (takes_of rfl rfl rfl rfl) K_Catalog (F_Catalog__init__.mono (by decide)) hr (by rfl) m_Catalog b_Catalog__init__ (pa_cons (pv 1) pa_nil)) (pa_cons pe_dnewK (pa_cons pe_dnewK pa_nil))) (by rfl)) (pss_cons (ps_for (passes_of rfl) rfl (pi_wk (B := B) rfl (pv 2)) (pg_name (i := 7) sc__law_office.nd rfl (Or.inl rfl)) (pss_one (ps_dput (hu_of hr) (pv 5) (pv 7) (pe_makeU (B := B) (k := 6) rfl (takes_of rfl rfl rfl rfl) K_Thing (F_Thing__init__.mono (by decide)) hr (by rfl) m_Thing b_Thing__init__ (pa_cons (pe_callS (F__law_note.mono (by decide)) hr (by rfl) m__law_note k__law_note b__law_note (passAt (takes_of rfl rfl rfl rfl)) (pa_cons (pv 4) (pa_cons (pv 1) (pa_cons (pe_ixU (B := B) (k := 6) rfl (takes_of rfl rfl rfl rfl) hr no_hd (pe_ixU (B := B) (k := 6) rfl (takes_of rfl rfl rfl rfl) hr no_hd (pv 2) (pv 7) (fun _ _ => rfl)) (pe_int) (fun _ _ => rfl)) pa_nil)))) (pa_cons (pe_ixU (B := B) (k := 6) rfl (takes_of rfl rfl rfl rfl) hr no_hd (pe_ixU (B := B) (k := 6) rfl (takes_of rfl rfl rfl rfl) hr no_hd (pv 2) (pv 7) (fun _ _ => rfl)) (pe_int) (fun _ _ => rfl)) pa_nil))) rfl))) (pss_cons (ps_for (passes_of rfl) rfl (pi_wk (B := B) rfl (pv 3)) (pg_name (i := 7) sc__law_office.nd rfl (Or.inl rfl)) (pss_cons (ps_asg (pe_ixU (B := B) (k := 6) rfl (takes_of rfl rfl rfl rfl) hr no_hd (pv 3) (pv 7) (fun _ _ => rfl)) (pg_tup rfl (pgs_cons (pg_name (i := 8) sc__law_office.nd rfl (Or.inl rfl)) (pgs_cons (pg_name (i := 9) sc__law_office.nd rfl (Or.inl rfl)) (pgs_cons (pg_name (i := 10) sc__law_office.nd rfl (Or.inl rfl)) (pgs_cons (pg_name (i := 11) sc__law_office.nd rfl (Or.inl rfl)) pgs_nil)))))) (pss_one (ps_dput (hu_of hr) (pv 6) (pv 7) (pe_makeU (B := B) (k := 6) rfl (takes_of rfl rfl rfl rfl) K_Claim (F_Claim__init__.mono (by decide)) hr (by rfl) m_Claim b_Claim__init__ (pa_cons (pe_callS (F__law_note.mono (by decide)) hr (by rfl) m__law_note k__law_note b__law_note (passAt (takes_of rfl rfl rfl rfl)) (pa_cons (pv 4) (pa_cons (pv 1) (pa_cons (pv 8) pa_nil)))) (pa_cons (pv 9) (pa_cons (pv 10) (pa_cons (pv 11) pa_nil))))) rfl)))) (pss_one (ps_lk 6 (ps_lk 5 (ps_ret (pe_makeU (B := B) (k := 6) rfl (takes_of rfl rfl rfl rfl) K_Office (F_Office__init__.mono (by decide)) hr (by rfl) m_Office b_Office__init__ (pa_cons (pv 4) (pa_cons (pv 5) (pa_cons (pv 6) pa_nil)))))))))))) rfl
abbrev N__law_apart_ : List Str := ["_law_drawn_here", "_law_claim", "_law_thing", "_law_one", "_law_other", "_law_name", "_law_words", "_law_word"]
theorem sc__law_apart : FnScope N__law_apart_ ["_law_drawn_here", "_law_claim", "_law_thing"] (defScope (top 53)) := ⟨rfl, rfl, rfl, by decide +kernel, rfl, by decide +kernel, by decide +kernel⟩
set_option maxHeartbeats 4000000 in
theorem ok__law_apart {B : Bs} {f : Addr} {fd : FuncData}  (Fn : Fun B.K "_law_apart" "_law_apart" (top 53) f fd)  :
    FnOk P w B.K mg base (L2.CX P w) 3 f fd ["_law_drawn_here", "_law_claim", "_law_thing"] (spD B 3 (g__law_apart B)) := by
  refine fn_ok Fn sc__law_apart (fun ds s _ => rfl) fun cdv A outer s H E hr => ?_
  exact conv (pss_cons (ps_asg (pe_tupP (pa_cons (pe_ixU (B := B) (k := 1) rfl (takes_of rfl rfl rfl rfl) hr no_hd (pe_ixU (B := B) (k := 1) rfl (takes_of rfl rfl rfl rfl) hr no_hd (pe_ixU (B := B) (k := 1) rfl (takes_of rfl rfl rfl rfl) hr no_hd (pv 0) (pe_int) (fun _ _ => rfl)) (pv 1) (fun _ _ => rfl)) (pe_int) (fun _ _ => rfl)) (pa_cons (pe_ixU (B := B) (k := 1) rfl (takes_of rfl rfl rfl rfl) hr no_hd (pe_ixU (B := B) (k := 1) rfl (takes_of rfl rfl rfl rfl) hr no_hd (pe_ixU (B := B) (k := 1) rfl (takes_of rfl rfl rfl rfl) hr no_hd (pv 0) (pe_int) (fun _ _ => rfl)) (pv 2) (fun _ _ => rfl)) (pe_int) (fun _ _ => rfl)) pa_nil))) (pg_tup rfl (pgs_cons (pg_name (i := 3) sc__law_apart.nd rfl (Or.inr rfl)) (pgs_cons (pg_name (i := 4) sc__law_apart.nd rfl (Or.inr rfl)) pgs_nil)))) (pss_one (ps_ret (pe_lc (own := [("_law_name", 5), ("_law_words", 6)]) rfl sc__law_apart.nd (pi_wk (B := B) rfl (pe_ixU (B := B) (k := 1) rfl (takes_of rfl rfl rfl rfl) hr no_hd (pv 0) (pe_int) (fun _ _ => rfl))) (blkOk_by (N := N__law_apart_) (sc := defScope (top 53)) (by decide +kernel)) (fun _ _ _ _ _ => (pg_tup rfl (pgs_cons (pg_name (i := 5) sc__law_apart.nd rfl (by first | exact Or.inl rfl | exact Or.inr rfl)) (pgs_cons (pg_name (i := 6) sc__law_apart.nd rfl (by first | exact Or.inl rfl | exact Or.inr rfl)) pgs_nil)))) (fun _ _ _ _ _ => (pts_one (pt_cmpE (op_eqU (B := B) (hs := []) (k := 1) (neg := false) rfl rfl tkW0 hr no_eq) (pe_lc (own := [("_law_word", 7)]) rfl sc__law_apart.nd (pi_wk (B := B) rfl (pe_ixU (B := B) (k := 1) rfl tkW0 hr no_hd (pv 3) (pv 5) (fun _ _ => rfl))) (blkOk_by (N := N__law_apart_) (by with_unfolding_all rfl)) (fun _ _ _ _ _ => (pg_name (i := 7) sc__law_apart.nd rfl (by first | exact Or.inl rfl | exact Or.inr rfl))) (fun _ _ _ _ _ => (pts_one (pt_cmpE (op_inU (B := B) (hs := []) (k := 2) (neg := false) rfl rfl tkW0 hr no_hd) (pv 7) (pe_ixU (B := B) (k := 1) rfl tkW0 hr no_hd (pv 4) (pv 5) (fun _ _ => rfl))))) (fun _ _ _ _ _ => (pv 7))) (pe_lst pa_nil)))) (fun _ _ _ _ _ => (pv 5)))))) rfl
abbrev N__law_can_ : List Str := ["_law_drawn_here", "_law_claim", "_law_thing"]
theorem sc__law_can : FnScope N__law_can_ ["_law_drawn_here", "_law_claim", "_law_thing"] (defScope (top 54)) := ⟨rfl, rfl, rfl, by decide +kernel, rfl, by decide +kernel, by decide +kernel⟩
set_option maxHeartbeats 4000000 in
theorem ok__law_can {B : Bs} {f : Addr} {fd : FuncData} {a__law_apart : Addr} {fd__law_apart : FuncData} (Fn : Fun B.K "_law_can" "_law_can" (top 54) f fd) (m_len : mg "len" = none) (F__law_apart : FnOk P w B.K mg base (L2.CX P w) 3 a__law_apart fd__law_apart ["_law_drawn_here", "_law_claim", "_law_thing"] (spD B 3 (g__law_apart B))) (m__law_apart : mg "_law_apart" = some (.ref a__law_apart)) (k__law_apart : PySem.W.keepIn B.K (.ref a__law_apart) = true) (b__law_apart : Binds B.K fd__law_apart ["_law_drawn_here", "_law_claim", "_law_thing"] []) :
    FnOk P w B.K mg base (L2.CX P w) 4 f fd ["_law_drawn_here", "_law_claim", "_law_thing"] (spD B 3 (g__law_can B)) := by
  refine fn_ok Fn sc__law_can (fun ds s _ => rfl) fun cdv A outer s H E hr => ?_
  exact conv (pss_cons (ps_if (pt_cmpR (op_ltU (B := B)) (pe_ixU (B := B) (k := 2) rfl (takes_of rfl rfl rfl rfl) hr no_hd (pe_ixU (B := B) (k := 2) rfl (takes_of rfl rfl rfl rfl) hr no_hd (pe_ixU (B := B) (k := 2) rfl (takes_of rfl rfl rfl rfl) hr no_hd (pv 0) (pe_int) (fun _ _ => rfl)) (pv 2) (fun _ _ => rfl)) (pe_int) (fun _ _ => rfl)) (pe_ixU (B := B) (k := 2) rfl (takes_of rfl rfl rfl rfl) hr no_hd (pe_ixU (B := B) (k := 2) rfl (takes_of rfl rfl rfl rfl) hr no_hd (pe_ixU (B := B) (k := 2) rfl (takes_of rfl rfl rfl rfl) hr no_hd (pv 0) (pe_int) (fun _ _ => rfl)) (pv 1) (fun _ _ => rfl)) (pe_int) (fun _ _ => rfl)) (nomark _)) (pss_one (ps_ret (pe_bl))) pss_nil) (pss_one (ps_ret (pe_cmpR (op_leU (B := B)) (pe_callB (call_lenU (B := B) (hs := []) (k := 2) rfl hr no_hd) (by rfl) m_len (by decide +kernel) (pa_cons (pe_callS (F__law_apart.mono (by decide)) hr (by rfl) m__law_apart k__law_apart b__law_apart (passAt (takes_of rfl rfl rfl rfl)) (pa_cons (pv 0) (pa_cons (pv 1) (pa_cons (pv 2) pa_nil)))) pa_nil)) (pe_ixU (B := B) (k := 2) rfl (takes_of rfl rfl rfl rfl) hr no_hd (pe_ixU (B := B) (k := 2) rfl (takes_of rfl rfl rfl rfl) hr no_hd (pe_ixU (B := B) (k := 2) rfl (takes_of rfl rfl rfl rfl) hr no_hd (pv 0) (pe_int) (fun _ _ => rfl)) (pv 1) (fun _ _ => rfl)) (pe_int) (fun _ _ => rfl)) (nomark _))))) rfl
abbrev N__law_alike_ : List Str := ["_law_found", "_law_due", "_law_k"]
theorem sc__law_alike : FnScope N__law_alike_ ["_law_found", "_law_due"] (defScope (top 46)) := ⟨rfl, rfl, rfl, by decide +kernel, rfl, by decide +kernel, by decide +kernel⟩
theorem ok__law_alike {B : Bs} {a__law_alike : Addr} {fd__law_alike : FuncData} (Fn : Fun B.K "_law_alike" "_law_alike" (top 46) a__law_alike fd__law_alike) (m__law_alike : mg "_law_alike" = some (.ref a__law_alike)) (k__law_alike : PySem.W.keepIn B.K (.ref a__law_alike) = true) (b__law_alike : Binds B.K fd__law_alike ["_law_found", "_law_due"] []) (I_dict : ∀ X : Cx, X.K = B.K → IsiOk B X [.type "dict"] isi_dict) (m_dict : mg "dict" = none) (m_isinstance : mg "isinstance" = none) (I_tuple_list : ∀ X : Cx, X.K = B.K → IsiOk B X [.type "tuple", .type "list"] isi_tuple_list) (m_list : mg "list" = none) (m_tuple : mg "tuple" = none) (I_list : ∀ X : Cx, X.K = B.K → IsiOk B X [.type "list"] isi_list) (m_len : mg "len" = none) (m_range : mg "range" = none) (I_str : ∀ X : Cx, X.K = B.K → IsiOk B X [.type "str"] isi_str) (m_str : mg "str" = none) (I_int : ∀ X : Cx, X.K = B.K → IsiOk B X [.type "int"] isi_int) (m_int : mg "int" = none) (I_bool : ∀ X : Cx, X.K = B.K → IsiOk B X [.type "bool"] isi_bool) (m_bool : mg "bool" = none) :
    ∀ n, FnOk P w B.K mg base (L2.CX P w) (n + 3) a__law_alike fd__law_alike ["_law_found", "_law_due"] (spD B 2 (g__law_alike B n))
  | 0 => fn_none
  | n + 1 => by
    have ih := ok__law_alike Fn m__law_alike k__law_alike b__law_alike I_dict m_dict m_isinstance I_tuple_list m_list m_tuple I_list m_len m_range I_str m_str I_int m_int I_bool m_bool n
    refine fn_ok Fn sc__law_alike (fun ds s _ => rfl) fun cdv A outer s H E hr => ?_
    exact conv (pss_cons (ps_if (pt_val (pe_isi (B := B) (f := isi_dict) rfl (I_dict _ rfl) (by rfl) m_isinstance (pv 1) (pe_bltn (v := .ty "dict") (by rfl) m_dict (by decide +kernel) rfl) (.ty _))) (pss_one (ps_never)) pss_nil) (pss_cons (ps_if (pt_val (pe_isiT (B := B) (f := isi_tuple_list) rfl (I_tuple_list _ rfl) (by rfl) m_isinstance (pv 1) (pa_cons (pe_bltn (v := .ty "tuple") (by rfl) m_tuple (by decide +kernel) rfl) (pa_cons (pe_bltn (v := .ty "list") (by rfl) m_list (by decide +kernel) rfl) pa_nil)) (fun _ _ _ z => z) (by decide) (.cons (.ty _) (.cons (.ty _) .nil)))) (pss_cons (ps_if (L2.PW.pt (pw_or (pt_not (pt_val (pe_isiT (B := B) (f := isi_tuple_list) rfl (I_tuple_list _ rfl) (by rfl) m_isinstance (pv 0) (pa_cons (pe_bltn (v := .ty "tuple") (by rfl) m_tuple (by decide +kernel) rfl) (pa_cons (pe_bltn (v := .ty "list") (by rfl) m_list (by decide +kernel) rfl) pa_nil)) (fun _ _ _ z => z) (by decide) (.cons (.ty _) (.cons (.ty _) .nil))))) (pw_or1 (pt_cmpE (op_eqU (B := B) (hs := []) (k := (n + 2)) (neg := true) rfl rfl (takes_of rfl rfl rfl rfl) hr no_eq) (pe_isi (B := B) (f := isi_list) rfl (I_list _ rfl) (by rfl) m_isinstance (pv 0) (pe_bltn (v := .ty "list") (by rfl) m_list (by decide +kernel) rfl) (.ty _)) (pe_isi (B := B) (f := isi_list) rfl (I_list _ rfl) (by rfl) m_isinstance (pv 1) (pe_bltn (v := .ty "list") (by rfl) m_list (by decide +kernel) rfl) (.ty _)))))) (pss_one (ps_ret (pe_bl))) pss_nil) (pss_cons (ps_if (pt_cmpE (op_eqU (B := B) (hs := []) (k := (n + 2)) (neg := true) rfl rfl (takes_of rfl rfl rfl rfl) hr no_eq) (pe_callB (call_lenU (B := B) (hs := []) (k := (n + 2)) rfl hr no_hd) (by rfl) m_len (by decide +kernel) (pa_cons (pv 0) pa_nil)) (pe_callB (call_lenU (B := B) (hs := []) (k := (n + 2)) rfl hr no_hd) (by rfl) m_len (by decide +kernel) (pa_cons (pv 1) pa_nil))) (pss_one (ps_ret (pe_bl))) pss_nil) (pss_one (ps_ret (pe_cmpE (op_eqU (B := B) (hs := []) (k := (n + 2)) (neg := false) rfl rfl (takes_of rfl rfl rfl rfl) hr no_eq) (pe_lc (own := [("_law_k", 2)]) rfl sc__law_alike.nd (pi_range1 (by rfl) m_range (pa_cons (pe_callB (call_lenU (B := B) (hs := []) (k := (n + 2)) rfl hr no_hd) (by rfl) m_len (by decide +kernel) (pa_cons (pv 1) pa_nil)) pa_nil)) (blkOk_by (N := N__law_alike_) (sc := defScope (top 46)) (by decide +kernel)) (fun _ _ _ _ _ => (pg_name (i := 2) sc__law_alike.nd rfl (by first | exact Or.inl rfl | exact Or.inr rfl))) (fun _ _ _ _ _ => (pts_one (pt_not (pt_val (pe_callS ih hr (by rfl) m__law_alike k__law_alike b__law_alike (passAt tkW0) (pa_cons (pe_ixU (B := B) (k := (n + 2)) rfl tkW0 hr no_hd (pv 0) (pv 2) (fun _ _ => rfl)) (pa_cons (pe_ixU (B := B) (k := (n + 2)) rfl tkW0 hr no_hd (pv 1) (pv 2) (fun _ _ => rfl)) pa_nil))))))) (fun _ _ _ _ _ => (pv 2))) (pe_lst pa_nil)))))) pss_nil) (pss_cons (ps_if (L2.PW.pt (pw_or (pt_cmpR op_isN1 (pv 1) (pe_non) (nomark _)) (pw_or1 (pt_val (pe_isi (B := B) (f := isi_str) rfl (I_str _ rfl) (by rfl) m_isinstance (pv 1) (pe_bltn (v := .ty "str") (by rfl) m_str (by decide +kernel) rfl) (.ty _)))))) (pss_one (ps_ret ((pe_and (pe_cmpE (op_eqU (B := B) (hs := []) (k := (n + 2)) (neg := false) rfl rfl (takes_of rfl rfl rfl rfl) hr no_eq) (pv 0) (pv 1)) (pe_one (pe_cmpE (op_eqU (B := B) (hs := []) (k := (n + 2)) (neg := false) rfl rfl (takes_of rfl rfl rfl rfl) hr no_eq) (pe_isi (B := B) (f := isi_str) rfl (I_str _ rfl) (by rfl) m_isinstance (pv 0) (pe_bltn (v := .ty "str") (by rfl) m_str (by decide +kernel) rfl) (.ty _)) (pe_isi (B := B) (f := isi_str) rfl (I_str _ rfl) (by rfl) m_isinstance (pv 1) (pe_bltn (v := .ty "str") (by rfl) m_str (by decide +kernel) rfl) (.ty _)))))))) pss_nil) (pss_one (ps_ret ((pe_and (pe_isi (B := B) (f := isi_int) rfl (I_int _ rfl) (by rfl) m_isinstance (pv 0) (pe_bltn (v := .ty "int") (by rfl) m_int (by decide +kernel) rfl) (.ty _)) (pe_and (pe_cmpE (op_eqU (B := B) (hs := []) (k := (n + 2)) (neg := false) rfl rfl (takes_of rfl rfl rfl rfl) hr no_eq) (pe_isi (B := B) (f := isi_bool) rfl (I_bool _ rfl) (by rfl) m_isinstance (pv 0) (pe_bltn (v := .ty "bool") (by rfl) m_bool (by decide +kernel) rfl) (.ty _)) (pe_isi (B := B) (f := isi_bool) rfl (I_bool _ rfl) (by rfl) m_isinstance (pv 1) (pe_bltn (v := .ty "bool") (by rfl) m_bool (by decide +kernel) rfl) (.ty _))) (pe_one (pe_cmpE (op_eqU (B := B) (hs := []) (k := (n + 2)) (neg := false) rfl rfl (takes_of rfl rfl rfl rfl) hr no_eq) (pv 0) (pv 1))))))))))) rfl
abbrev N_Office_claims_ : List Str := ["self"]
theorem sc_Office_claims : FnScope N_Office_claims_ ["self"] (defScope (inClass (top 34) 3)) := ⟨rfl, rfl, rfl, by decide +kernel, rfl, by decide +kernel, by decide +kernel⟩
set_option maxHeartbeats 4000000 in
theorem ok_Office_claims {B : Bs} {f : Addr} {fd : FuncData}  (Fn : Fun B.K "claims" "Office.claims" (inClass (top 34) 3) f fd) (A_Office__claims : Cls B.K (B.ca "Office") ∧ NoAttr B.K (B.ca "Office") "_claims") (m_dict : mg "dict" = none) :
    FnOk P w B.K mg base (L2.CX P w) 3 f fd ["self"] (spD B 1 (g_Office_claims B)) := by
  refine fn_ok Fn sc_Office_claims (fun ds s _ => rfl) fun cdv A outer s H E hr => ?_
  exact conv (pss_one (ps_ret (pe_lk (pe_callTy (call_dictV (B := B) rfl rfl) (by rfl) m_dict (by decide +kernel) (pa_cons (pe_atU (B := B) (k := 1) hr (at_cons (atF rfl A_Office__claims) at_nil) (pv 0) (nox_of (at_cons (P := fun _ t => NoExA t) (g := .fld) True.intro at_nil))) pa_nil))))) rfl
theorem N_Office_claims {B : Bs} : NoExc (g_Office_claims B) := noX_ret (noX_dct (noX_at noX_var))
abbrev N_Office_things_ : List Str := ["self"]
theorem sc_Office_things : FnScope N_Office_things_ ["self"] (defScope (inClass (top 34) 2)) := ⟨rfl, rfl, rfl, by decide +kernel, rfl, by decide +kernel, by decide +kernel⟩
set_option maxHeartbeats 4000000 in
theorem ok_Office_things {B : Bs} {f : Addr} {fd : FuncData}  (Fn : Fun B.K "things" "Office.things" (inClass (top 34) 2) f fd) (A_Office__things : Cls B.K (B.ca "Office") ∧ NoAttr B.K (B.ca "Office") "_things") (m_dict : mg "dict" = none) :
    FnOk P w B.K mg base (L2.CX P w) 3 f fd ["self"] (spD B 1 (g_Office_things B)) := by
  refine fn_ok Fn sc_Office_things (fun ds s _ => rfl) fun cdv A outer s H E hr => ?_
  exact conv (pss_one (ps_ret (pe_lk (pe_callTy (call_dictV (B := B) rfl rfl) (by rfl) m_dict (by decide +kernel) (pa_cons (pe_atU (B := B) (k := 1) hr (at_cons (atF rfl A_Office__things) at_nil) (pv 0) (nox_of (at_cons (P := fun _ t => NoExA t) (g := .fld) True.intro at_nil))) pa_nil))))) rfl
theorem N_Office_things {B : Bs} : NoExc (g_Office_things B) := noX_ret (noX_dct (noX_at noX_var))
abbrev N_claim_of_ : List Str := ["office", "label", "claims"]
theorem sc_claim_of : FnScope N_claim_of_ ["office", "label"] (defScope (top 35)) := ⟨rfl, rfl, rfl, by decide +kernel, rfl, by decide +kernel, by decide +kernel⟩
set_option maxHeartbeats 4000000 in
theorem ok_claim_of {B : Bs} {f : Addr} {fd : FuncData} {bm_UnknownLabel : List Value} {Bn_UnknownLabel nw_UnknownLabel it_UnknownLabel : String} (Fn : Fun B.K "claim_of" "claim_of" (top 35) f fd) (A_Office_claims : AtP B P w mg base 3 "claims" "Office" (g_Office_claims B)) (EF_UnknownLabel : ExcBaseFacts Bn_UnknownLabel nw_UnknownLabel it_UnknownLabel bm_UnknownLabel) (X_UnknownLabel : PySem.W.excIn B.K (B.ca "UnknownLabel") bm_UnknownLabel nw_UnknownLabel = true) (m_UnknownLabel : mg "UnknownLabel" = some (.ref (B.ca "UnknownLabel"))) (k_UnknownLabel : PySem.W.keepIn B.K (.ref (B.ca "UnknownLabel")) = true) (r_UnknownLabel : ∀ X : Cx, X.K = B.K → Raises X (.ref (B.ca "UnknownLabel"))) :
    FnOk P w B.K mg base (L2.CX P w) 5 f fd ["office", "label"] (spD B 2 (g_claim_of B)) := by
  refine fn_ok Fn sc_claim_of (fun ds s _ => rfl) fun cdv A outer s H E hr => ?_
  exact conv (pss_cons (ps_set (i := 2) sc_claim_of.nd rfl (Or.inl rfl) (pe_atU (B := B) (k := 3) hr (at_cons (atM rfl ((A_Office_claims).mono (by decide))) at_nil) (pv 0) (nox_of (at_cons (P := fun _ t => NoExA t) (g := .prop (g_Office_claims B)) N_Office_claims at_nil)))) (pss_cons (ps_if (pt_cmpE (op_inU (B := B) (hs := []) (k := 4) (neg := true) rfl rfl (takes_of rfl rfl rfl rfl) hr no_hd) (pv 1) (pv 2)) (pss_one (ps_raise rfl (takes_of rfl rfl rfl rfl) (SkE.pmk_own1 EF_UnknownLabel X_UnknownLabel m_UnknownLabel k_UnknownLabel (r_UnknownLabel _ rfl) (by rfl) (pe_joined (PJ.cons (pe_str) (PJ.cons (pe_fmt (pv 1)) PJ.nil)))))) pss_nil) (pss_one (ps_ret (pe_ixU (B := B) (k := 3) rfl (takes_of rfl rfl rfl rfl) hr no_hd (pv 2) (pv 1) (fun _ _ => rfl)))))) rfl
abbrev N_thing_of_ : List Str := ["office", "label", "things"]
theorem sc_thing_of : FnScope N_thing_of_ ["office", "label"] (defScope (top 36)) := ⟨rfl, rfl, rfl, by decide +kernel, rfl, by decide +kernel, by decide +kernel⟩
set_option maxHeartbeats 4000000 in
theorem ok_thing_of {B : Bs} {f : Addr} {fd : FuncData} {bm_UnknownLabel : List Value} {Bn_UnknownLabel nw_UnknownLabel it_UnknownLabel : String} (Fn : Fun B.K "thing_of" "thing_of" (top 36) f fd) (A_Office_things : AtP B P w mg base 3 "things" "Office" (g_Office_things B)) (EF_UnknownLabel : ExcBaseFacts Bn_UnknownLabel nw_UnknownLabel it_UnknownLabel bm_UnknownLabel) (X_UnknownLabel : PySem.W.excIn B.K (B.ca "UnknownLabel") bm_UnknownLabel nw_UnknownLabel = true) (m_UnknownLabel : mg "UnknownLabel" = some (.ref (B.ca "UnknownLabel"))) (k_UnknownLabel : PySem.W.keepIn B.K (.ref (B.ca "UnknownLabel")) = true) (r_UnknownLabel : ∀ X : Cx, X.K = B.K → Raises X (.ref (B.ca "UnknownLabel"))) :
    FnOk P w B.K mg base (L2.CX P w) 5 f fd ["office", "label"] (spD B 2 (g_thing_of B)) := by
  refine fn_ok Fn sc_thing_of (fun ds s _ => rfl) fun cdv A outer s H E hr => ?_
  exact conv (pss_cons (ps_set (i := 2) sc_thing_of.nd rfl (Or.inl rfl) (pe_atU (B := B) (k := 3) hr (at_cons (atM rfl ((A_Office_things).mono (by decide))) at_nil) (pv 0) (nox_of (at_cons (P := fun _ t => NoExA t) (g := .prop (g_Office_things B)) N_Office_things at_nil)))) (pss_cons (ps_if (pt_cmpE (op_inU (B := B) (hs := []) (k := 4) (neg := true) rfl rfl (takes_of rfl rfl rfl rfl) hr no_hd) (pv 1) (pv 2)) (pss_one (ps_raise rfl (takes_of rfl rfl rfl rfl) (SkE.pmk_own1 EF_UnknownLabel X_UnknownLabel m_UnknownLabel k_UnknownLabel (r_UnknownLabel _ rfl) (by rfl) (pe_joined (PJ.cons (pe_str) (PJ.cons (pe_fmt (pv 1)) PJ.nil)))))) pss_nil) (pss_one (ps_ret (pe_ixU (B := B) (k := 3) rfl (takes_of rfl rfl rfl rfl) hr no_hd (pv 2) (pv 1) (fun _ _ => rfl)))))) rfl
abbrev N_Claim_day_ : List Str := ["self"]
theorem sc_Claim_day : FnScope N_Claim_day_ ["self"] (defScope (inClass (top 30) 2)) := ⟨rfl, rfl, rfl, by decide +kernel, rfl, by decide +kernel, by decide +kernel⟩
set_option maxHeartbeats 4000000 in
theorem ok_Claim_day {B : Bs} {f : Addr} {fd : FuncData}  (Fn : Fun B.K "day" "Claim.day" (inClass (top 30) 2) f fd) (A_Claim__day : Cls B.K (B.ca "Claim") ∧ NoAttr B.K (B.ca "Claim") "_day") :
    FnOk P w B.K mg base (L2.CX P w) 3 f fd ["self"] (spD B 1 (g_Claim_day B)) := by
  refine fn_ok Fn sc_Claim_day (fun ds s _ => rfl) fun cdv A outer s H E hr => ?_
  exact conv (pss_one (ps_ret (pe_atU (B := B) (k := 1) hr (at_cons (atF rfl A_Claim__day) at_nil) (pv 0) (nox_of (at_cons (P := fun _ t => NoExA t) (g := .fld) True.intro at_nil))))) rfl
theorem N_Claim_day {B : Bs} : NoExc (g_Claim_day B) := noX_ret (noX_at noX_var)
abbrev N_Thing_day_ : List Str := ["self"]
theorem sc_Thing_day : FnScope N_Thing_day_ ["self"] (defScope (inClass (top 29) 2)) := ⟨rfl, rfl, rfl, by decide +kernel, rfl, by decide +kernel, by decide +kernel⟩
set_option maxHeartbeats 4000000 in
theorem ok_Thing_day {B : Bs} {f : Addr} {fd : FuncData}  (Fn : Fun B.K "day" "Thing.day" (inClass (top 29) 2) f fd) (A_Thing__day : Cls B.K (B.ca "Thing") ∧ NoAttr B.K (B.ca "Thing") "_day") :
    FnOk P w B.K mg base (L2.CX P w) 3 f fd ["self"] (spD B 1 (g_Thing_day B)) := by
  refine fn_ok Fn sc_Thing_day (fun ds s _ => rfl) fun cdv A outer s H E hr => ?_
  exact conv (pss_one (ps_ret (pe_atU (B := B) (k := 1) hr (at_cons (atF rfl A_Thing__day) at_nil) (pv 0) (nox_of (at_cons (P := fun _ t => NoExA t) (g := .fld) True.intro at_nil))))) rfl
theorem N_Thing_day {B : Bs} : NoExc (g_Thing_day B) := noX_ret (noX_at noX_var)
abbrev N_Office_catalog_ : List Str := ["self"]
theorem sc_Office_catalog : FnScope N_Office_catalog_ ["self"] (defScope (inClass (top 34) 1)) := ⟨rfl, rfl, rfl, by decide +kernel, rfl, by decide +kernel, by decide +kernel⟩
set_option maxHeartbeats 4000000 in
theorem ok_Office_catalog {B : Bs} {f : Addr} {fd : FuncData}  (Fn : Fun B.K "catalog" "Office.catalog" (inClass (top 34) 1) f fd) (A_Office__catalog : Cls B.K (B.ca "Office") ∧ NoAttr B.K (B.ca "Office") "_catalog") :
    FnOk P w B.K mg base (L2.CX P w) 3 f fd ["self"] (spD B 1 (g_Office_catalog B)) := by
  refine fn_ok Fn sc_Office_catalog (fun ds s _ => rfl) fun cdv A outer s H E hr => ?_
  exact conv (pss_one (ps_ret (pe_atU (B := B) (k := 1) hr (at_cons (atF rfl A_Office__catalog) at_nil) (pv 0) (nox_of (at_cons (P := fun _ t => NoExA t) (g := .fld) True.intro at_nil))))) rfl
theorem N_Office_catalog {B : Bs} : NoExc (g_Office_catalog B) := noX_ret (noX_at noX_var)
abbrev N_Catalog_names_ : List Str := ["self"]
theorem sc_Catalog_names : FnScope N_Catalog_names_ ["self"] (defScope (inClass (top 18) 2)) := ⟨rfl, rfl, rfl, by decide +kernel, rfl, by decide +kernel, by decide +kernel⟩
set_option maxHeartbeats 4000000 in
theorem ok_Catalog_names {B : Bs} {f : Addr} {fd : FuncData}  (Fn : Fun B.K "names" "Catalog.names" (inClass (top 18) 2) f fd) (A_Catalog__values : Cls B.K (B.ca "Catalog") ∧ NoAttr B.K (B.ca "Catalog") "_values") (m_tuple : mg "tuple" = none) :
    FnOk P w B.K mg base (L2.CX P w) 3 f fd ["self"] (spD B 1 (g_Catalog_names B)) := by
  refine fn_ok Fn sc_Catalog_names (fun ds s _ => rfl) fun cdv A outer s H E hr => ?_
  exact conv (pss_one (ps_ret (pe_callTy (call_tupA (B := B) rfl rfl) (by rfl) m_tuple (by decide +kernel) (pa_cons (pe_atU (B := B) (k := 1) hr (at_cons (atF rfl A_Catalog__values) at_nil) (pv 0) (nox_of (at_cons (P := fun _ t => NoExA t) (g := .fld) True.intro at_nil))) pa_nil)))) rfl
theorem N_Catalog_names {B : Bs} : NoExc (g_Catalog_names B) := noX_ret (noX_blt (noX_at noX_var))
abbrev N_Note__getitem___ : List Str := ["self", "name"]
theorem sc_Note__getitem__ : FnScope N_Note__getitem___ ["self", "name"] (defScope (inClass (top 22) 5)) := ⟨rfl, rfl, rfl, by decide +kernel, rfl, by decide +kernel, by decide +kernel⟩
set_option maxHeartbeats 4000000 in
theorem ok_Note__getitem__ {B : Bs} {f : Addr} {fd : FuncData} {bm_UnknownFeature : List Value} {Bn_UnknownFeature nw_UnknownFeature it_UnknownFeature : String} (Fn : Fun B.K "__getitem__" "Note.__getitem__" (inClass (top 22) 5) f fd) (A_Note__values : Cls B.K (B.ca "Note") ∧ NoAttr B.K (B.ca "Note") "_values") (EF_UnknownFeature : ExcBaseFacts Bn_UnknownFeature nw_UnknownFeature it_UnknownFeature bm_UnknownFeature) (X_UnknownFeature : PySem.W.excIn B.K (B.ca "UnknownFeature") bm_UnknownFeature nw_UnknownFeature = true) (m_UnknownFeature : mg "UnknownFeature" = some (.ref (B.ca "UnknownFeature"))) (k_UnknownFeature : PySem.W.keepIn B.K (.ref (B.ca "UnknownFeature")) = true) (r_UnknownFeature : ∀ X : Cx, X.K = B.K → Raises X (.ref (B.ca "UnknownFeature"))) :
    FnOk P w B.K mg base (L2.CX P w) 3 f fd ["self", "name"] (spD B 2 (g_Note__getitem__ B)) := by
  refine fn_ok Fn sc_Note__getitem__ (fun ds s _ => rfl) fun cdv A outer s H E hr => ?_
  exact conv (pss_cons (ps_if (pt_cmpE (op_inU (B := B) (hs := []) (k := 2) (neg := true) rfl rfl (takes_of rfl rfl rfl rfl) hr no_hd) (pv 1) (pe_atU (B := B) (k := 1) hr (at_cons (atF rfl A_Note__values) at_nil) (pv 0) (nox_of (at_cons (P := fun _ t => NoExA t) (g := .fld) True.intro at_nil)))) (pss_one (ps_raise rfl (takes_of rfl rfl rfl rfl) (SkE.pmk_own1 EF_UnknownFeature X_UnknownFeature m_UnknownFeature k_UnknownFeature (r_UnknownFeature _ rfl) (by rfl) (pe_joined (PJ.cons (pe_str) (PJ.cons (pe_fmt (pv 1)) PJ.nil)))))) pss_nil) (pss_one (ps_ret (pe_ixU (B := B) (k := 1) rfl (takes_of rfl rfl rfl rfl) hr no_hd (pe_atU (B := B) (k := 1) hr (at_cons (atF rfl A_Note__values) at_nil) (pv 0) (nox_of (at_cons (P := fun _ t => NoExA t) (g := .fld) True.intro at_nil))) (pv 1) (fun _ _ => rfl))))) rfl
abbrev N_common_values_ : List Str := ["one", "other", "name", "value"]
theorem sc_common_values : FnScope N_common_values_ ["one", "other", "name"] (defScope (top 21)) := ⟨rfl, rfl, rfl, by decide +kernel, rfl, by decide +kernel, by decide +kernel⟩
set_option maxHeartbeats 4000000 in
theorem ok_common_values {B : Bs} {f : Addr} {fd : FuncData}  (Fn : Fun B.K "common_values" "common_values" (top 21) f fd) (M_Note__getitem__ : OwnP B P w mg base 3 "__getitem__" 2 "Note" (g_Note__getitem__ B)) (m_tuple : mg "tuple" = none) :
    FnOk P w B.K mg base (L2.CX P w) 5 f fd ["one", "other", "name"] (spD B 3 (g_common_values B)) := by
  refine fn_ok Fn sc_common_values (fun ds s _ => rfl) fun cdv A outer s H E hr => ?_
  exact conv (pss_one (ps_ret (pe_callTy (call_tupA (B := B) rfl rfl) (by rfl) m_tuple (by decide +kernel) (pa_cons (pe_lc (own := [("value", 3)]) rfl sc_common_values.nd (pi_wk (B := B) rfl (pe_ixU (B := B) (k := 3) rfl (takes_of rfl rfl rfl rfl) hr (hd_cons (OwnP.at ((M_Note__getitem__).mono (by decide)) rfl) no_hd) (pv 0) (pv 2) (fun _ _ => rfl))) (blkOk_by (N := N_common_values_) (sc := defScope (top 21)) (by decide +kernel)) (fun _ _ _ _ _ => (pg_name (i := 3) sc_common_values.nd rfl (by first | exact Or.inl rfl | exact Or.inr rfl))) (fun _ _ _ _ _ => (pts_one (pt_cmpE (op_inU (B := B) (hs := []) (k := 4) (neg := false) rfl rfl tkW0 hr no_hd) (pv 3) (pe_ixU (B := B) (k := 3) rfl tkW0 hr (hd_cons (OwnP.at ((M_Note__getitem__).mono (by decide)) rfl) no_hd) (pv 1) (pv 2) (fun _ _ => rfl))))) (fun _ _ _ _ _ => (pv 3))) pa_nil)))) rfl
abbrev N_misfits_ : List Str := ["office", "claim", "thing", "lost", "found", "name"]
theorem sc_misfits : FnScope N_misfits_ ["office", "claim", "thing"] (defScope (top 38)) := ⟨rfl, rfl, rfl, by decide +kernel, rfl, by decide +kernel, by decide +kernel⟩
set_option maxHeartbeats 4000000 in
theorem ok_misfits {B : Bs} {f : Addr} {fd : FuncData} {a_claim_of : Addr} {fd_claim_of : FuncData} {a_thing_of : Addr} {fd_thing_of : FuncData} {a_common_values : Addr} {fd_common_values : FuncData} (Fn : Fun B.K "misfits" "misfits" (top 38) f fd) (A_Claim_note : AtP B P w mg base 3 "note" "Claim" (g_Claim_note B)) (A_Thing_note : AtP B P w mg base 3 "note" "Thing" (g_Thing_note B)) (A_Office_catalog : AtP B P w mg base 3 "catalog" "Office" (g_Office_catalog B)) (A_Catalog_names : AtP B P w mg base 3 "names" "Catalog" (g_Catalog_names B)) (m_len : mg "len" = none) (F_claim_of : FnOk P w B.K mg base (L2.CX P w) 5 a_claim_of fd_claim_of ["office", "label"] (spD B 2 (g_claim_of B))) (m_claim_of : mg "claim_of" = some (.ref a_claim_of)) (k_claim_of : PySem.W.keepIn B.K (.ref a_claim_of) = true) (b_claim_of : Binds B.K fd_claim_of ["office", "label"] []) (F_thing_of : FnOk P w B.K mg base (L2.CX P w) 5 a_thing_of fd_thing_of ["office", "label"] (spD B 2 (g_thing_of B))) (m_thing_of : mg "thing_of" = some (.ref a_thing_of)) (k_thing_of : PySem.W.keepIn B.K (.ref a_thing_of) = true) (b_thing_of : Binds B.K fd_thing_of ["office", "label"] []) (F_common_values : FnOk P w B.K mg base (L2.CX P w) 5 a_common_values fd_common_values ["one", "other", "name"] (spD B 3 (g_common_values B))) (m_common_values : mg "common_values" = some (.ref a_common_values)) (k_common_values : PySem.W.keepIn B.K (.ref a_common_values) = true) (b_common_values : Binds B.K fd_common_values ["one", "other", "name"] []) :
    FnOk P w B.K mg base (L2.CX P w) 6 f fd ["office", "claim", "thing"] (spD B 3 (g_misfits B)) := by
  refine fn_ok Fn sc_misfits (fun ds s _ => rfl) fun cdv A outer s H E hr => ?_
  exact conv (pss_cons (ps_set (i := 3) sc_misfits.nd rfl (Or.inr rfl) (pe_atU (B := B) (k := 4) hr (at_cons (atM rfl ((A_Thing_note).mono (by decide))) (at_cons (atM rfl ((A_Claim_note).mono (by decide))) at_nil)) (pe_callS (F_claim_of.mono (by decide)) hr (by rfl) m_claim_of k_claim_of b_claim_of (passAt (takes_of rfl rfl rfl rfl)) (pa_cons (pv 0) (pa_cons (pv 1) pa_nil))) (nox_of (at_cons (P := fun _ t => NoExA t) (g := .prop (g_Thing_note B)) N_Thing_note (at_cons (P := fun _ t => NoExA t) (g := .prop (g_Claim_note B)) N_Claim_note at_nil))))) (pss_cons (ps_set (i := 4) sc_misfits.nd rfl (Or.inr rfl) (pe_atU (B := B) (k := 4) hr (at_cons (atM rfl ((A_Thing_note).mono (by decide))) (at_cons (atM rfl ((A_Claim_note).mono (by decide))) at_nil)) (pe_callS (F_thing_of.mono (by decide)) hr (by rfl) m_thing_of k_thing_of b_thing_of (passAt (takes_of rfl rfl rfl rfl)) (pa_cons (pv 0) (pa_cons (pv 2) pa_nil))) (nox_of (at_cons (P := fun _ t => NoExA t) (g := .prop (g_Thing_note B)) N_Thing_note (at_cons (P := fun _ t => NoExA t) (g := .prop (g_Claim_note B)) N_Claim_note at_nil))))) (pss_one (ps_ret (pe_lc (own := [("name", 5)]) rfl sc_misfits.nd (pi_wk (B := B) rfl (pe_atU (B := B) (k := 4) hr (at_cons (atM rfl ((A_Catalog_names).mono (by decide))) at_nil) (pe_atU (B := B) (k := 4) hr (at_cons (atM rfl ((A_Office_catalog).mono (by decide))) at_nil) (pv 0) (nox_of (at_cons (P := fun _ t => NoExA t) (g := .prop (g_Office_catalog B)) N_Office_catalog at_nil))) (nox_of (at_cons (P := fun _ t => NoExA t) (g := .prop (g_Catalog_names B)) N_Catalog_names at_nil)))) (blkOk_by (N := N_misfits_) (sc := defScope (top 38)) (by decide +kernel)) (fun _ _ _ _ _ => (pg_name (i := 5) sc_misfits.nd rfl (by first | exact Or.inl rfl | exact Or.inr rfl))) (fun _ _ _ _ _ => (pts_one (pt_cmpE (op_eqU (B := B) (hs := []) (k := 4) (neg := false) rfl rfl tkW0 hr no_eq) (pe_callB (call_lenU (B := B) (hs := []) (k := 4) rfl hr no_hd) (by rfl) m_len (by decide +kernel) (pa_cons (pe_callS (F_common_values.mono (by decide)) hr (by rfl) m_common_values k_common_values b_common_values (passAt tkW0) (pa_cons (pv 3) (pa_cons (pv 4) (pa_cons (pv 5) pa_nil)))) pa_nil)) (pe_int)))) (fun _ _ _ _ _ => (pv 5))))))) rfl
abbrev N_Claim_slips_ : List Str := ["self"]
theorem sc_Claim_slips : FnScope N_Claim_slips_ ["self"] (defScope (inClass (top 30) 3)) := ⟨rfl, rfl, rfl, by decide +kernel, rfl, by decide +kernel, by decide +kernel⟩
set_option maxHeartbeats 4000000 in
theorem ok_Claim_slips {B : Bs} {f : Addr} {fd : FuncData}  (Fn : Fun B.K "slips" "Claim.slips" (inClass (top 30) 3) f fd) (A_Claim__slips : Cls B.K (B.ca "Claim") ∧ NoAttr B.K (B.ca "Claim") "_slips") :
    FnOk P w B.K mg base (L2.CX P w) 3 f fd ["self"] (spD B 1 (g_Claim_slips B)) := by
  refine fn_ok Fn sc_Claim_slips (fun ds s _ => rfl) fun cdv A outer s H E hr => ?_
  exact conv (pss_one (ps_ret (pe_atU (B := B) (k := 1) hr (at_cons (atF rfl A_Claim__slips) at_nil) (pv 0) (nox_of (at_cons (P := fun _ t => NoExA t) (g := .fld) True.intro at_nil))))) rfl
theorem N_Claim_slips {B : Bs} : NoExc (g_Claim_slips B) := noX_ret (noX_at noX_var)
abbrev N_fits_ : List Str := ["office", "claim", "thing", "lost", "found"]
theorem sc_fits : FnScope N_fits_ ["office", "claim", "thing"] (defScope (top 39)) := ⟨rfl, rfl, rfl, by decide +kernel, rfl, by decide +kernel, by decide +kernel⟩
set_option maxHeartbeats 4000000 in
theorem ok_fits {B : Bs} {f : Addr} {fd : FuncData} {a_claim_of : Addr} {fd_claim_of : FuncData} {a_thing_of : Addr} {fd_thing_of : FuncData} {a_misfits : Addr} {fd_misfits : FuncData} (Fn : Fun B.K "fits" "fits" (top 39) f fd) (A_Claim_day : AtP B P w mg base 3 "day" "Claim" (g_Claim_day B)) (A_Thing_day : AtP B P w mg base 3 "day" "Thing" (g_Thing_day B)) (m_len : mg "len" = none) (A_Claim_slips : AtP B P w mg base 3 "slips" "Claim" (g_Claim_slips B)) (F_claim_of : FnOk P w B.K mg base (L2.CX P w) 5 a_claim_of fd_claim_of ["office", "label"] (spD B 2 (g_claim_of B))) (m_claim_of : mg "claim_of" = some (.ref a_claim_of)) (k_claim_of : PySem.W.keepIn B.K (.ref a_claim_of) = true) (b_claim_of : Binds B.K fd_claim_of ["office", "label"] []) (F_thing_of : FnOk P w B.K mg base (L2.CX P w) 5 a_thing_of fd_thing_of ["office", "label"] (spD B 2 (g_thing_of B))) (m_thing_of : mg "thing_of" = some (.ref a_thing_of)) (k_thing_of : PySem.W.keepIn B.K (.ref a_thing_of) = true) (b_thing_of : Binds B.K fd_thing_of ["office", "label"] []) (F_misfits : FnOk P w B.K mg base (L2.CX P w) 6 a_misfits fd_misfits ["office", "claim", "thing"] (spD B 3 (g_misfits B))) (m_misfits : mg "misfits" = some (.ref a_misfits)) (k_misfits : PySem.W.keepIn B.K (.ref a_misfits) = true) (b_misfits : Binds B.K fd_misfits ["office", "claim", "thing"] []) :
    FnOk P w B.K mg base (L2.CX P w) 7 f fd ["office", "claim", "thing"] (spD B 3 (g_fits B)) := by
  refine fn_ok Fn sc_fits (fun ds s _ => rfl) fun cdv A outer s H E hr => ?_
  exact conv (pss_cons (ps_set (i := 3) sc_fits.nd rfl (Or.inl rfl) (pe_callS (F_claim_of.mono (by decide)) hr (by rfl) m_claim_of k_claim_of b_claim_of (passAt (takes_of rfl rfl rfl rfl)) (pa_cons (pv 0) (pa_cons (pv 1) pa_nil)))) (pss_cons (ps_set (i := 4) sc_fits.nd rfl (Or.inl rfl) (pe_callS (F_thing_of.mono (by decide)) hr (by rfl) m_thing_of k_thing_of b_thing_of (passAt (takes_of rfl rfl rfl rfl)) (pa_cons (pv 0) (pa_cons (pv 2) pa_nil)))) (pss_one (ps_ret ((pe_and (pe_cmpR op_ge (pe_atU (B := B) (k := 5) hr (at_cons (atM rfl ((A_Thing_day).mono (by decide))) (at_cons (atM rfl ((A_Claim_day).mono (by decide))) at_nil)) (pv 4) (nox_of (at_cons (P := fun _ t => NoExA t) (g := .prop (g_Thing_day B)) N_Thing_day (at_cons (P := fun _ t => NoExA t) (g := .prop (g_Claim_day B)) N_Claim_day at_nil)))) (pe_atU (B := B) (k := 5) hr (at_cons (atM rfl ((A_Thing_day).mono (by decide))) (at_cons (atM rfl ((A_Claim_day).mono (by decide))) at_nil)) (pv 3) (nox_of (at_cons (P := fun _ t => NoExA t) (g := .prop (g_Thing_day B)) N_Thing_day (at_cons (P := fun _ t => NoExA t) (g := .prop (g_Claim_day B)) N_Claim_day at_nil)))) (nomark _)) (pe_one (pe_cmpR (op_leU (B := B)) (pe_callB (call_lenU (B := B) (hs := []) (k := 5) rfl hr no_hd) (by rfl) m_len (by decide +kernel) (pa_cons (pe_callS (F_misfits.mono (by decide)) hr (by rfl) m_misfits k_misfits b_misfits (passAt (takes_of rfl rfl rfl rfl)) (pa_cons (pv 0) (pa_cons (pv 1) (pa_cons (pv 2) pa_nil)))) pa_nil)) (pe_atU (B := B) (k := 5) hr (at_cons (atM rfl ((A_Claim_slips).mono (by decide))) at_nil) (pv 3) (nox_of (at_cons (P := fun _ t => NoExA t) (g := .prop (g_Claim_slips B)) N_Claim_slips at_nil))) (nomark _))))))))) rfl
abbrev N_candidates_ : List Str := ["office", "label", "thing", "claim"]
theorem sc_candidates : FnScope N_candidates_ ["office", "label"] (defScope (top 40)) := ⟨rfl, rfl, rfl, by decide +kernel, rfl, by decide +kernel, by decide +kernel⟩
set_option maxHeartbeats 4000000 in
theorem ok_candidates {B : Bs} {f : Addr} {fd : FuncData} {a_fits : Addr} {fd_fits : FuncData} {bm_UnknownLabel : List Value} {Bn_UnknownLabel nw_UnknownLabel it_UnknownLabel : String} (Fn : Fun B.K "candidates" "candidates" (top 40) f fd) (A_Office_claims : AtP B P w mg base 3 "claims" "Office" (g_Office_claims B)) (A_Office_things : AtP B P w mg base 3 "things" "Office" (g_Office_things B)) (EF_UnknownLabel : ExcBaseFacts Bn_UnknownLabel nw_UnknownLabel it_UnknownLabel bm_UnknownLabel) (X_UnknownLabel : PySem.W.excIn B.K (B.ca "UnknownLabel") bm_UnknownLabel nw_UnknownLabel = true) (m_UnknownLabel : mg "UnknownLabel" = some (.ref (B.ca "UnknownLabel"))) (k_UnknownLabel : PySem.W.keepIn B.K (.ref (B.ca "UnknownLabel")) = true) (r_UnknownLabel : ∀ X : Cx, X.K = B.K → Raises X (.ref (B.ca "UnknownLabel"))) (F_fits : FnOk P w B.K mg base (L2.CX P w) 7 a_fits fd_fits ["office", "claim", "thing"] (spD B 3 (g_fits B))) (m_fits : mg "fits" = some (.ref a_fits)) (k_fits : PySem.W.keepIn B.K (.ref a_fits) = true) (b_fits : Binds B.K fd_fits ["office", "claim", "thing"] []) :
    FnOk P w B.K mg base (L2.CX P w) 8 f fd ["office", "label"] (spD B 2 (g_candidates B)) := by
  refine fn_ok Fn sc_candidates (fun ds s _ => rfl) fun cdv A outer s H E hr => ?_
  exact conv (pss_cons (ps_if (pt_cmpE (op_inU (B := B) (hs := []) (k := 7) (neg := false) rfl rfl (takes_of rfl rfl rfl rfl) hr no_hd) (pv 1) (pe_atU (B := B) (k := 6) hr (at_cons (atM rfl ((A_Office_claims).mono (by decide))) at_nil) (pv 0) (nox_of (at_cons (P := fun _ t => NoExA t) (g := .prop (g_Office_claims B)) N_Office_claims at_nil)))) (pss_one (ps_ret (pe_lc (own := [("thing", 2)]) rfl sc_candidates.nd (pi_wk (B := B) rfl (pe_atU (B := B) (k := 6) hr (at_cons (atM rfl ((A_Office_things).mono (by decide))) at_nil) (pv 0) (nox_of (at_cons (P := fun _ t => NoExA t) (g := .prop (g_Office_things B)) N_Office_things at_nil)))) (blkOk_by (N := N_candidates_) (sc := defScope (top 40)) (by decide +kernel)) (fun _ _ _ _ _ => (pg_name (i := 2) sc_candidates.nd rfl (by first | exact Or.inl rfl | exact Or.inr rfl))) (fun _ _ _ _ _ => (pts_one (pt_val (pe_callS (F_fits.mono (by decide)) hr (by rfl) m_fits k_fits b_fits (passAt tkW0) (pa_cons (pv 0) (pa_cons (pv 1) (pa_cons (pv 2) pa_nil))))))) (fun _ _ _ _ _ => (pv 2))))) pss_nil) (pss_cons (ps_if (pt_cmpE (op_inU (B := B) (hs := []) (k := 7) (neg := false) rfl rfl (takes_of rfl rfl rfl rfl) hr no_hd) (pv 1) (pe_atU (B := B) (k := 6) hr (at_cons (atM rfl ((A_Office_things).mono (by decide))) at_nil) (pv 0) (nox_of (at_cons (P := fun _ t => NoExA t) (g := .prop (g_Office_things B)) N_Office_things at_nil)))) (pss_one (ps_ret (pe_lc (own := [("claim", 3)]) rfl sc_candidates.nd (pi_wk (B := B) rfl (pe_atU (B := B) (k := 6) hr (at_cons (atM rfl ((A_Office_claims).mono (by decide))) at_nil) (pv 0) (nox_of (at_cons (P := fun _ t => NoExA t) (g := .prop (g_Office_claims B)) N_Office_claims at_nil)))) (blkOk_by (N := N_candidates_) (sc := defScope (top 40)) (by decide +kernel)) (fun _ _ _ _ _ => (pg_name (i := 3) sc_candidates.nd rfl (by first | exact Or.inl rfl | exact Or.inr rfl))) (fun _ _ _ _ _ => (pts_one (pt_val (pe_callS (F_fits.mono (by decide)) hr (by rfl) m_fits k_fits b_fits (passAt tkW0) (pa_cons (pv 0) (pa_cons (pv 3) (pa_cons (pv 1) pa_nil))))))) (fun _ _ _ _ _ => (pv 3))))) pss_nil) (pss_one (ps_raise rfl (takes_of rfl rfl rfl rfl) (SkE.pmk_own1 EF_UnknownLabel X_UnknownLabel m_UnknownLabel k_UnknownLabel (r_UnknownLabel _ rfl) (by rfl) (pe_joined (PJ.cons (pe_str) (PJ.cons (pe_fmt (pv 1)) PJ.nil)))))))) rfl
abbrev N_rivals_ : List Str := ["office", "claim", "things", "others", "other", "thing"]
theorem sc_rivals : FnScope N_rivals_ ["office", "claim"] (defScope (top 42)) := ⟨rfl, rfl, rfl, by decide +kernel, rfl, by decide +kernel, by decide +kernel⟩
set_option maxHeartbeats 4000000 in
theorem ok_rivals {B : Bs} {f : Addr} {fd : FuncData} {a_claim_of : Addr} {fd_claim_of : FuncData} {a_candidates : Addr} {fd_candidates : FuncData} {a_fits : Addr} {fd_fits : FuncData} (Fn : Fun B.K "rivals" "rivals" (top 42) f fd) (A_Office_claims : AtP B P w mg base 3 "claims" "Office" (g_Office_claims B)) (m_any : mg "any" = none) (F_claim_of : FnOk P w B.K mg base (L2.CX P w) 5 a_claim_of fd_claim_of ["office", "label"] (spD B 2 (g_claim_of B))) (m_claim_of : mg "claim_of" = some (.ref a_claim_of)) (k_claim_of : PySem.W.keepIn B.K (.ref a_claim_of) = true) (b_claim_of : Binds B.K fd_claim_of ["office", "label"] []) (F_candidates : FnOk P w B.K mg base (L2.CX P w) 8 a_candidates fd_candidates ["office", "label"] (spD B 2 (g_candidates B))) (m_candidates : mg "candidates" = some (.ref a_candidates)) (k_candidates : PySem.W.keepIn B.K (.ref a_candidates) = true) (b_candidates : Binds B.K fd_candidates ["office", "label"] []) (F_fits : FnOk P w B.K mg base (L2.CX P w) 7 a_fits fd_fits ["office", "claim", "thing"] (spD B 3 (g_fits B))) (m_fits : mg "fits" = some (.ref a_fits)) (k_fits : PySem.W.keepIn B.K (.ref a_fits) = true) (b_fits : Binds B.K fd_fits ["office", "claim", "thing"] []) :
    FnOk P w B.K mg base (L2.CX P w) 9 f fd ["office", "claim"] (spD B 2 (g_rivals B)) := by
  refine fn_ok Fn sc_rivals (fun ds s _ => rfl) fun cdv A outer s H E hr => ?_
  exact conv (pss_cons (ps_expr (pe_callS (F_claim_of.mono (by decide)) hr (by rfl) m_claim_of k_claim_of b_claim_of (passAt (takes_of rfl rfl rfl rfl)) (pa_cons (pv 0) (pa_cons (pv 1) pa_nil)))) (pss_cons (ps_set (i := 2) sc_rivals.nd rfl (Or.inr rfl) (pe_callS (F_candidates.mono (by decide)) hr (by rfl) m_candidates k_candidates b_candidates (passAt (takes_of rfl rfl rfl rfl)) (pa_cons (pv 0) (pa_cons (pv 1) pa_nil)))) (pss_cons (ps_setLc (i := 3) (y := "others") (own := [("other", 4)]) rfl sc_rivals.nd rfl rfl (sw_true rfl rfl rfl (by decide +kernel)) (pi_wk (B := B) rfl (pe_atU (B := B) (k := 7) hr (at_cons (atM rfl ((A_Office_claims).mono (by decide))) at_nil) (pv 0) (nox_of (at_cons (P := fun _ t => NoExA t) (g := .prop (g_Office_claims B)) N_Office_claims at_nil)))) (blkOk_by (N := N_rivals_) (sc := defScope (top 42)) (by decide +kernel)) (fun _ _ _ _ _ => (pg_name (i := 4) sc_rivals.nd rfl (by first | exact Or.inl rfl | exact Or.inr rfl))) (fun _ _ _ _ _ => (pts_one (pt_cmpE (op_eqU (B := B) (hs := []) (k := 7) (neg := true) rfl rfl tkW0 hr no_eq) (pv 4) (pv 1)))) (fun _ _ _ _ _ => (pv 4))) (pss_one (ps_ret (pe_lc (own := [("other", 4)]) rfl sc_rivals.nd (pi_wk (B := B) rfl (pv 3)) (blkOk_by (N := N_rivals_) (sc := defScope (top 42)) (by decide +kernel)) (fun _ _ _ _ _ => (pg_name (i := 4) sc_rivals.nd rfl (by first | exact Or.inl rfl | exact Or.inr rfl))) (fun _ _ _ _ _ => (pts_one (pt_val (pe_callB (call_anyU (B := B) rfl rfl) (by rfl) m_any (by decide +kernel) (pa_cons (pe_lc (own := [("thing", 5)]) rfl sc_rivals.nd (pi_wk (B := B) rfl (pv 2)) (blkOk_by (N := N_rivals_) (by with_unfolding_all rfl)) (fun _ _ _ _ _ => (pg_name (i := 5) sc_rivals.nd rfl (by first | exact Or.inl rfl | exact Or.inr rfl))) (fun _ _ _ _ _ => pts_nil) (fun _ _ _ _ _ => (pe_callS (F_fits.mono (by decide)) hr (by rfl) m_fits k_fits b_fits (passAt tkW0) (pa_cons (pv 0) (pa_cons (pv 4) (pa_cons (pv 5) pa_nil)))))) pa_nil))))) (fun _ _ _ _ _ => (pv 4)))))))) rfl
abbrev N_lonely_ : List Str := ["office", "labels", "label"]
theorem sc_lonely : FnScope N_lonely_ ["office"] (defScope (top 41)) := ⟨rfl, rfl, rfl, by decide +kernel, rfl, by decide +kernel, by decide +kernel⟩
set_option maxHeartbeats 4000000 in
theorem ok_lonely {B : Bs} {f : Addr} {fd : FuncData} {a_candidates : Addr} {fd_candidates : FuncData} (Fn : Fun B.K "lonely" "lonely" (top 41) f fd) (A_Office_things : AtP B P w mg base 3 "things" "Office" (g_Office_things B)) (m_list : mg "list" = none) (A_Office_claims : AtP B P w mg base 3 "claims" "Office" (g_Office_claims B)) (m_sorted : mg "sorted" = none) (m_len : mg "len" = none) (F_candidates : FnOk P w B.K mg base (L2.CX P w) 8 a_candidates fd_candidates ["office", "label"] (spD B 2 (g_candidates B))) (m_candidates : mg "candidates" = some (.ref a_candidates)) (k_candidates : PySem.W.keepIn B.K (.ref a_candidates) = true) (b_candidates : Binds B.K fd_candidates ["office", "label"] []) :
    FnOk P w B.K mg base (L2.CX P w) 9 f fd ["office"] (spD B 1 (g_lonely B)) := by
  refine fn_ok Fn sc_lonely (fun ds s _ => rfl) fun cdv A outer s H E hr => ?_
  exact conv (pss_cons (ps_set (i := 1) sc_lonely.nd rfl (Or.inl rfl) (pe_callB (call_srtU (B := B) rfl rfl) (by rfl) m_sorted (by decide +kernel) (pa_cons (pe_op (op_addU (B := B) rfl) (pe_callTy (call_lstU (B := B) rfl rfl) (by rfl) m_list (by decide +kernel) (pa_cons (pe_atU (B := B) (k := 7) hr (at_cons (atM rfl ((A_Office_things).mono (by decide))) at_nil) (pv 0) (nox_of (at_cons (P := fun _ t => NoExA t) (g := .prop (g_Office_things B)) N_Office_things at_nil))) pa_nil)) (pe_callTy (call_lstU (B := B) rfl rfl) (by rfl) m_list (by decide +kernel) (pa_cons (pe_atU (B := B) (k := 7) hr (at_cons (atM rfl ((A_Office_claims).mono (by decide))) at_nil) (pv 0) (nox_of (at_cons (P := fun _ t => NoExA t) (g := .prop (g_Office_claims B)) N_Office_claims at_nil))) pa_nil))) pa_nil))) (pss_one (ps_ret (pe_lc (own := [("label", 2)]) rfl sc_lonely.nd (pi_wk (B := B) rfl (pv 1)) (blkOk_by (N := N_lonely_) (sc := defScope (top 41)) (by decide +kernel)) (fun _ _ _ _ _ => (pg_name (i := 2) sc_lonely.nd rfl (by first | exact Or.inl rfl | exact Or.inr rfl))) (fun _ _ _ _ _ => (pts_one (pt_cmpE (op_eqU (B := B) (hs := []) (k := 7) (neg := false) rfl rfl tkW0 hr no_eq) (pe_callB (call_lenU (B := B) (hs := []) (k := 7) rfl hr no_hd) (by rfl) m_len (by decide +kernel) (pa_cons (pe_callS (F_candidates.mono (by decide)) hr (by rfl) m_candidates k_candidates b_candidates (passAt tkW0) (pa_cons (pv 0) (pa_cons (pv 2) pa_nil))) pa_nil)) (pe_int)))) (fun _ _ _ _ _ => (pv 2)))))) rfl
abbrev N__law_mix_ : List Str := ["_law_script", "_law_seed", "_law_state", "_law_cell"]
theorem sc__law_mix : FnScope N__law_mix_ ["_law_script", "_law_seed"] (defScope (top 44)) := ⟨rfl, rfl, rfl, by decide +kernel, rfl, by decide +kernel, by decide +kernel⟩
theorem ok__law_mix {B : Bs} {f : Addr} {fd : FuncData}  (Fn : Fun B.K "_law_mix" "_law_mix" (top 44) f fd) (m_list : mg "list" = none) (m_int : mg "int" = none) : FnOk P w B.K mg base (L2.CX P w) 3 f fd ["_law_script", "_law_seed"] (spMix B.K) :=
  Fn.okX sc__law_mix (fun vs H Q E h => by obtain ⟨_, _, _, rfl, _⟩ := h; rfl) fun cdv A outer s H vs Q E hr h => ⟨_, (pss_cons (ps_set (i := 2) sc__law_mix.nd rfl (Or.inl rfl) (pv 1)) (pss_cons (ps_for (passes_of rfl) rfl (pi_of (B := B) rfl (pv 0)) (pg_name (i := 3) sc__law_mix.nd rfl (Or.inl rfl)) (pss_one (ps_set (i := 2) sc__law_mix.nd rfl (Or.inl rfl) (pe_op op_mod (pe_callTy call_int1 (by rfl) m_int (by decide +kernel) (pa_cons (pe_op (op_addU (B := B) rfl) (pe_op (op_addU (B := B) rfl) (pe_op op_mul (pv 2) (pe_int)) (pe_op op_mod (pe_callTy call_int1 (by rfl) m_int (by decide +kernel) (pa_cons (pv 3) pa_nil)) (pe_int))) (pe_int)) pa_nil)) (pe_int))))) (pss_one (ps_ret (pe_lst (pa_cons (pv 2) (pa_cons (pe_callTy call_list_of (by rfl) m_list (by decide +kernel) (pa_cons (pv 0) pa_nil)) (pa_cons pe_int pa_nil)))))))), mix_body rfl (fun cls d _ H => E cls d H) h⟩
abbrev N_law_ : List Str := ["_law_script", "_law_h", "_law_turn", "_law_drawn_here", "_law_office_here", "_law_none", "_law_of_claims", "_law_claim", "_law_due", "_law_other", "_law_shared", "_law_thing"]
theorem sc_law : FnScope N_law_ ["_law_script"] (defScope (top 55)) := ⟨rfl, rfl, rfl, by decide +kernel, rfl, by decide +kernel, by decide +kernel⟩
theorem ok_law {B : Bs} {f : Addr} {fd : FuncData} {a__law_drawn : Addr} {fd__law_drawn : FuncData} {a__law_office : Addr} {fd__law_office : FuncData} {a__law_can : Addr} {fd__law_can : FuncData} {a_candidates : Addr} {fd_candidates : FuncData} {a__law_alike : Addr} {fd__law_alike : FuncData} {a_rivals : Addr} {fd_rivals : FuncData} {a_lonely : Addr} {fd_lonely : FuncData} {a__law_mix : Addr} {fd__law_mix : FuncData} (Fn : Fun B.K "law" "law" (top 55) f fd) (m_range : mg "range" = none) (m_int : mg "int" = none) (m_sorted : mg "sorted" = none) (F__law_drawn : FnOk P w B.K mg base (L2.CX P w) 6 a__law_drawn fd__law_drawn ["_law_h", "_law_things", "_law_claims"] (spD B 3 (g__law_drawn B))) (m__law_drawn : mg "_law_drawn" = some (.ref a__law_drawn)) (k__law_drawn : PySem.W.keepIn B.K (.ref a__law_drawn) = true) (b__law_drawn : Binds B.K fd__law_drawn ["_law_h", "_law_things", "_law_claims"] []) (F__law_office : FnOk P w B.K mg base (L2.CX P w) 8 a__law_office fd__law_office ["_law_drawn_here"] (spD B 1 (g__law_office B))) (m__law_office : mg "_law_office" = some (.ref a__law_office)) (k__law_office : PySem.W.keepIn B.K (.ref a__law_office) = true) (b__law_office : Binds B.K fd__law_office ["_law_drawn_here"] []) (F__law_can : FnOk P w B.K mg base (L2.CX P w) 4 a__law_can fd__law_can ["_law_drawn_here", "_law_claim", "_law_thing"] (spD B 3 (g__law_can B))) (m__law_can : mg "_law_can" = some (.ref a__law_can)) (k__law_can : PySem.W.keepIn B.K (.ref a__law_can) = true) (b__law_can : Binds B.K fd__law_can ["_law_drawn_here", "_law_claim", "_law_thing"] []) (F_candidates : FnOk P w B.K mg base (L2.CX P w) 8 a_candidates fd_candidates ["office", "label"] (spD B 2 (g_candidates B))) (m_candidates : mg "candidates" = some (.ref a_candidates)) (k_candidates : PySem.W.keepIn B.K (.ref a_candidates) = true) (b_candidates : Binds B.K fd_candidates ["office", "label"] []) (F__law_alike : FnOk P w B.K mg base (L2.CX P w) 9 a__law_alike fd__law_alike ["_law_found", "_law_due"] (spD B 2 (g__law_alike B 6))) (m__law_alike : mg "_law_alike" = some (.ref a__law_alike)) (k__law_alike : PySem.W.keepIn B.K (.ref a__law_alike) = true) (b__law_alike : Binds B.K fd__law_alike ["_law_found", "_law_due"] []) (F_rivals : FnOk P w B.K mg base (L2.CX P w) 9 a_rivals fd_rivals ["office", "claim"] (spD B 2 (g_rivals B))) (m_rivals : mg "rivals" = some (.ref a_rivals)) (k_rivals : PySem.W.keepIn B.K (.ref a_rivals) = true) (b_rivals : Binds B.K fd_rivals ["office", "claim"] []) (F_lonely : FnOk P w B.K mg base (L2.CX P w) 9 a_lonely fd_lonely ["office"] (spD B 1 (g_lonely B))) (m_lonely : mg "lonely" = some (.ref a_lonely)) (k_lonely : PySem.W.keepIn B.K (.ref a_lonely) = true) (b_lonely : Binds B.K fd_lonely ["office"] []) (F__law_mix : FnOk P w B.K mg base (L2.CX P w) 3 a__law_mix fd__law_mix ["_law_script", "_law_seed"] (spMix B.K)) (m__law_mix : mg "_law_mix" = some (.ref a__law_mix)) (k__law_mix : PySem.W.keepIn B.K (.ref a__law_mix) = true) (b__law_mix : Binds B.K fd__law_mix ["_law_script", "_law_seed"] [])
    (hev : ∀ ns : List Int, ns.length ≤ 63 → ∃ s, (p_law B).ev ((Sl.fr (.rol ns) :: List.replicate 11 Sl.no).set 1 (.fr .hnd)) ⟨mixF ns 6, ns, 0⟩ = .ret (.bl true) s) : FnOk P w B.K mg base (L2.CX P w) 10 f fd ["_law_script"] (spLaw B.K) :=
  Fn.okX sc_law (fun vs H Q E h => by obtain ⟨_, _, rfl, _⟩ := h; rfl) fun cdv A outer s H vs Q E hr h => ⟨tSeq (tAsg (tCallS (spMix B.K) (WE fun cls d _ H => E cls d H) (tCons (tVar 0) (tCons (tC (.int 6)) tNil))) (gName 1)) ((p_law B).ts fun cls d _ H => E cls d H), conv (pss_cons (ps_set (i := 1) sc_law.nd rfl (Or.inl rfl) (pe_callS (F__law_mix.mono (by decide)) hr (by rfl) m__law_mix k__law_mix b__law_mix (passAt (takes_of rfl rfl rfl rfl)) (pa_cons (pv 0) (pa_cons (pe_int) pa_nil)))) (pss_cons (ps_for (passes_of rfl) rfl (pi_range1 (by rfl) m_range (pa_cons (pe_int) pa_nil)) (pg_name (i := 2) sc_law.nd rfl (Or.inl rfl)) (pss_cons (ps_set (i := 3) sc_law.nd rfl (Or.inr rfl) (pe_callS (F__law_drawn.mono (by decide)) hr (by rfl) m__law_drawn k__law_drawn b__law_drawn (passAt (takes_of rfl rfl rfl rfl)) (pa_cons (pv 1) (pa_cons (pe_int) (pa_cons (pe_int) pa_nil))))) (pss_cons (ps_asg (pe_tupP (pa_cons (pe_callS (F__law_office.mono (by decide)) hr (by rfl) m__law_office k__law_office b__law_office (passAt (takes_of rfl rfl rfl rfl)) (pa_cons (pv 3) pa_nil)) (pa_cons (pe_lst pa_nil) (pa_cons pe_dnewK pa_nil)))) (pg_tup rfl (pgs_cons (pg_name (i := 4) sc_law.nd rfl (Or.inl rfl)) (pgs_cons (pg_name (i := 5) sc_law.nd rfl (Or.inl rfl)) (pgs_cons (pg_name (i := 6) sc_law.nd rfl (Or.inr rfl)) pgs_nil))))) (pss_cons (ps_for (passes_of rfl) rfl (pi_wk (B := B) rfl (pe_ixU (B := B) (k := 8) rfl (takes_of rfl rfl rfl rfl) hr no_hd (pv 3) (pe_int) (fun _ _ => rfl))) (pg_name (i := 7) sc_law.nd rfl (Or.inr rfl)) (pss_one (ps_dput (hu_of hr) (pv 6) (pv 7) (pe_lc (own := [("_law_thing", 11)]) rfl sc_law.nd (pi_wk (B := B) rfl (pe_ixU (B := B) (k := 8) rfl (takes_of rfl rfl rfl rfl) hr no_hd (pv 3) (pe_int) (fun _ _ => rfl))) (blkOk_by (N := N_law_) (sc := defScope (top 55)) (by decide +kernel)) (fun _ _ _ _ _ => (pg_name (i := 11) sc_law.nd rfl (by first | exact Or.inl rfl | exact Or.inr rfl))) (fun _ _ _ _ _ => (pts_one (pt_val (pe_callS (F__law_can.mono (by decide)) hr (by rfl) m__law_can k__law_can b__law_can (passAt tkW0) (pa_cons (pv 3) (pa_cons (pv 7) (pa_cons (pv 11) pa_nil))))))) (fun _ _ _ _ _ => (pv 11))) rfl))) (pss_cons (ps_for (passes_of rfl) rfl (pi_wk (B := B) rfl (pe_ixU (B := B) (k := 8) rfl (takes_of rfl rfl rfl rfl) hr no_hd (pv 3) (pe_int) (fun _ _ => rfl))) (pg_name (i := 7) sc_law.nd rfl (Or.inr rfl)) (pss_cons (ps_lkm 6 (ps_set (i := 5) sc_law.nd rfl (Or.inl rfl) (pe_op (op_addU (B := B) rfl) (pv 5) (pe_op (op_mulU (B := B)) (pe_lst (pa_cons (pv 7) pa_nil)) (pe_callTy call_int1 (by rfl) m_int (by decide +kernel) (pa_cons (pe_cmpE (op_eqU (B := B) (hs := []) (k := 8) (neg := false) rfl rfl (takes_of rfl rfl rfl rfl) hr no_eq) (pe_ixU (B := B) (k := 8) rfl (takes_of rfl rfl rfl rfl) hr no_hd (pv 6) (pv 7) (fun _ _ => rfl)) (pe_lst pa_nil)) pa_nil)))))) (pss_cons (ps_if (pt_not (pt_val (pe_callS (F__law_alike.mono (by decide)) hr (by rfl) m__law_alike k__law_alike b__law_alike (passAt (takes_of rfl rfl rfl rfl)) (pa_cons (pe_callS (F_candidates.mono (by decide)) hr (by rfl) m_candidates k_candidates b_candidates (passAt (takes_of rfl rfl rfl rfl)) (pa_cons (pv 4) (pa_cons (pv 7) pa_nil))) (pa_cons (pe_ixU (B := B) (k := 8) rfl (takes_of rfl rfl rfl rfl) hr no_hd (pv 6) (pv 7) (fun _ _ => rfl)) pa_nil))))) (pss_one (ps_ret (pe_bl))) pss_nil) (pss_cons (ps_set (i := 8) sc_law.nd rfl (Or.inl rfl) (pe_lst pa_nil)) (pss_cons (ps_for (passes_of rfl) rfl (pi_wk (B := B) rfl (pe_ixU (B := B) (k := 8) rfl (takes_of rfl rfl rfl rfl) hr no_hd (pv 3) (pe_int) (fun _ _ => rfl))) (pg_name (i := 9) sc_law.nd rfl (Or.inl rfl)) (pss_cons (ps_setLc (i := 10) (y := "_law_shared") (own := [("_law_thing", 11)]) rfl sc_law.nd rfl rfl (sw_true rfl rfl rfl (by decide +kernel)) (pi_wk (B := B) rfl (pe_ixU (B := B) (k := 8) rfl (takes_of rfl rfl rfl rfl) hr no_hd (pv 6) (pv 9) (fun _ _ => rfl))) (blkOk_by (N := N_law_) (sc := defScope (top 55)) (by decide +kernel)) (fun _ _ _ _ _ => (pg_name (i := 11) sc_law.nd rfl (by first | exact Or.inl rfl | exact Or.inr rfl))) (fun _ _ _ _ _ => (pts_one (pt_cmpE (op_inU (B := B) (hs := []) (k := 9) (neg := false) rfl rfl tkW0 hr no_hd) (pv 11) (pe_ixU (B := B) (k := 8) rfl tkW0 hr no_hd (pv 6) (pv 7) (fun _ _ => rfl))))) (fun _ _ _ _ _ => (pv 11))) (pss_one (ps_if (L2.PW.pt (pw_and (pt_cmpE (op_eqU (B := B) (hs := []) (k := 8) (neg := true) rfl rfl (takes_of rfl rfl rfl rfl) hr no_eq) (pv 9) (pv 7)) (pw_and1 (pt_cmpE (op_eqU (B := B) (hs := []) (k := 8) (neg := true) rfl rfl (takes_of rfl rfl rfl rfl) hr no_eq) (pv 10) (pe_lst pa_nil))))) (pss_one (ps_expr (pe_bm PySem.F.plainAttrs_list PySem.F.slot_list_append PySem.F.type_list_append mt_append (pv 8) (pa_cons (pv 9) pa_nil)))) pss_nil)))) (pss_one (ps_if (pt_not (pt_val (pe_callS (F__law_alike.mono (by decide)) hr (by rfl) m__law_alike k__law_alike b__law_alike (passAt (takes_of rfl rfl rfl rfl)) (pa_cons (pe_callS (F_rivals.mono (by decide)) hr (by rfl) m_rivals k_rivals b_rivals (passAt (takes_of rfl rfl rfl rfl)) (pa_cons (pv 4) (pa_cons (pv 7) pa_nil))) (pa_cons (pv 8) pa_nil))))) (pss_one (ps_ret (pe_bl))) pss_nil))))))) (pss_cons (ps_for (passes_of rfl) rfl (pi_wk (B := B) rfl (pe_ixU (B := B) (k := 8) rfl (takes_of rfl rfl rfl rfl) hr no_hd (pv 3) (pe_int) (fun _ _ => rfl))) (pg_name (i := 11) sc_law.nd rfl (Or.inr rfl)) (pss_cons (ps_setLc (i := 8) (y := "_law_due") (own := [("_law_claim", 7)]) rfl sc_law.nd rfl rfl (sw_true rfl rfl rfl (by decide +kernel)) (pi_wk (B := B) rfl (pe_ixU (B := B) (k := 8) rfl (takes_of rfl rfl rfl rfl) hr no_hd (pv 3) (pe_int) (fun _ _ => rfl))) (blkOk_by (N := N_law_) (sc := defScope (top 55)) (by decide +kernel)) (fun _ _ _ _ _ => (pg_name (i := 7) sc_law.nd rfl (by first | exact Or.inl rfl | exact Or.inr rfl))) (fun _ _ _ _ _ => (pts_one (pt_cmpE (op_inU (B := B) (hs := []) (k := 9) (neg := false) rfl rfl tkW0 hr no_hd) (pv 11) (pe_ixU (B := B) (k := 8) rfl tkW0 hr no_hd (pv 6) (pv 7) (fun _ _ => rfl))))) (fun _ _ _ _ _ => (pv 7))) (pss_cons (ps_set (i := 5) sc_law.nd rfl (Or.inl rfl) (pe_op (op_addU (B := B) rfl) (pv 5) (pe_op (op_mulU (B := B)) (pe_lst (pa_cons (pv 11) pa_nil)) (pe_callTy call_int1 (by rfl) m_int (by decide +kernel) (pa_cons (pe_cmpE (op_eqU (B := B) (hs := []) (k := 8) (neg := false) rfl rfl (takes_of rfl rfl rfl rfl) hr no_eq) (pv 8) (pe_lst pa_nil)) pa_nil))))) (pss_one (ps_if (pt_not (pt_val (pe_callS (F__law_alike.mono (by decide)) hr (by rfl) m__law_alike k__law_alike b__law_alike (passAt (takes_of rfl rfl rfl rfl)) (pa_cons (pe_callS (F_candidates.mono (by decide)) hr (by rfl) m_candidates k_candidates b_candidates (passAt (takes_of rfl rfl rfl rfl)) (pa_cons (pv 4) (pa_cons (pv 11) pa_nil))) (pa_cons (pv 8) pa_nil))))) (pss_one (ps_ret (pe_bl))) pss_nil))))) (pss_one (ps_if (pt_not (pt_val (pe_callS (F__law_alike.mono (by decide)) hr (by rfl) m__law_alike k__law_alike b__law_alike (passAt (takes_of rfl rfl rfl rfl)) (pa_cons (pe_callS (F_lonely.mono (by decide)) hr (by rfl) m_lonely k_lonely b_lonely (passAt (takes_of rfl rfl rfl rfl)) (pa_cons (pv 4) pa_nil)) (pa_cons (pe_callB (call_srtU (B := B) rfl rfl) (by rfl) m_sorted (by decide +kernel) (pa_cons (pv 5) pa_nil)) pa_nil))))) (pss_one (ps_ret (pe_bl))) pss_nil)))))))) (pss_one (ps_ret (pe_bl))))) rfl, law_body (i := 1) (by decide) (by decide) (by decide) (by decide) hev (fun cls d _ H => E cls d H) h⟩
end K6

set_option Elab.async false
set_option linter.all false
set_option maxRecDepth 100000

namespace K6
open PySem PySem.Spec PyProof.Rows L2 Evl Dv Lo
-- def top : Stmt := PySem.Challenge.pw_lostdesk_k06_candidates_and_rivals.main.body.getD i (.Pass ⟨0, 0, 0, 0⟩)
variable {P : Program} {w : World} {mg : Str → Option Value} {base : Heap}
theorem kit1 {K : PySem.W.Frag} {t u : Value} {b : Bool} (h : PySem.W.kitOne K t u = some b) : PySem.W.kitAny K t [u] = some b := by
  unfold PySem.W.kitAny
  rw [h]
  cases b <;> rfl
theorem kit_me {K : PySem.W.Frag} {C : Addr} : PySem.W.kitOne K (.ref C) (.ref C) = some true := by
  unfold PySem.W.kitOne
  rw [if_pos (by simp)]
theorem kit_no {K : PySem.W.Frag} {C : Addr} {T : String} (h1 : (PySem.W.clsIn K C).isSome = true) (h2 : PySem.W.typeIn K (.ref C) = some (.type "type")) (h3 : PySem.W.subIn K (.type T) (.ref C) = some false) : PySem.W.kitOne K (.type T) (.ref C) = some false := by
  unfold PySem.W.kitOne
  rw [if_neg (by simp)]
  unfold PySem.W.kitCls
  dsimp only
  rw [if_pos (by rw [h1, h2]; simp), h3]
theorem exm_me {K : PySem.W.Frag} {C : Addr} (h0 : PySem.W.subIn K (.ref C) (.type "BaseException") = some true) (h1 : (PySem.W.clsIn K C).isSome = true) (h2 : PySem.W.typeIn K (.ref C) = some (.type "type")) (h3 : PySem.W.subIn K (.ref C) (.ref C) = some true) : PySem.W.exmOne K (.ref C) (.ref C) = some true := by
  unfold PySem.W.exmOne
  rw [if_pos (by rw [h0]; simp)]
  unfold PySem.W.kitCls
  dsimp only
  rw [if_pos (by rw [h1, h2]; simp), h3]
abbrev N_InvalidCatalog__init___ : List Str := ["self", "index"]
theorem sc_InvalidCatalog__init__ : FnScope N_InvalidCatalog__init___ ["self", "index"] (defScope (inClass (top 3) 0)) := ⟨rfl, rfl, rfl, by decide +kernel, rfl, by decide +kernel, by decide +kernel⟩
theorem ok_InvalidCatalog__init__ {B : Bs} {f : Addr} {fd : FuncData} (Fn : Fun B.K "__init__" "InvalidCatalog.__init__" (inClass (top 3) 0) f fd) (X_InvalidCatalog : OexC B.K (B.ca "InvalidCatalog")) (n_InvalidCatalog_index : PySem.W.findIn B.K (.ref (B.ca "InvalidCatalog")) "index" = some none) :
    FnOk P w B.K mg base (L2.CX P w) 2 f fd ["self", "index"] (spX (B.ca "InvalidCatalog") ["index"]) :=
  Fn.okX sc_InvalidCatalog__init__ (fun vs H Q E h => by obtain ⟨a, ws, rfl, hl, _⟩ := h; simpa using hl) fun cdv A outer s H vs Q E hr h => ⟨_, (pss_one (ps_ost (pv 0) (pv 1))), oex1_body rfl X_InvalidCatalog n_InvalidCatalog_index h⟩
abbrev N_InvalidEntry__init___ : List Str := ["self", "part"]
theorem sc_InvalidEntry__init__ : FnScope N_InvalidEntry__init___ ["self", "part"] (defScope (inClass (top 7) 0)) := ⟨rfl, rfl, rfl, by decide +kernel, rfl, by decide +kernel, by decide +kernel⟩
theorem ok_InvalidEntry__init__ {B : Bs} {f : Addr} {fd : FuncData} (Fn : Fun B.K "__init__" "InvalidEntry.__init__" (inClass (top 7) 0) f fd) (X_InvalidEntry : OexC B.K (B.ca "InvalidEntry")) (n_InvalidEntry_part : PySem.W.findIn B.K (.ref (B.ca "InvalidEntry")) "part" = some none) :
    FnOk P w B.K mg base (L2.CX P w) 2 f fd ["self", "part"] (spX (B.ca "InvalidEntry") ["part"]) :=
  Fn.okX sc_InvalidEntry__init__ (fun vs H Q E h => by obtain ⟨a, ws, rfl, hl, _⟩ := h; simpa using hl) fun cdv A outer s H vs Q E hr h => ⟨_, (pss_one (ps_ost (pv 0) (pv 1))), oex1_body rfl X_InvalidEntry n_InvalidEntry_part h⟩
abbrev N_InvalidNote__init___ : List Str := ["self", "feature"]
theorem sc_InvalidNote__init__ : FnScope N_InvalidNote__init___ ["self", "feature"] (defScope (inClass (top 5) 0)) := ⟨rfl, rfl, rfl, by decide +kernel, rfl, by decide +kernel, by decide +kernel⟩
theorem ok_InvalidNote__init__ {B : Bs} {f : Addr} {fd : FuncData} (Fn : Fun B.K "__init__" "InvalidNote.__init__" (inClass (top 5) 0) f fd) (X_InvalidNote : OexC B.K (B.ca "InvalidNote")) (n_InvalidNote_feature : PySem.W.findIn B.K (.ref (B.ca "InvalidNote")) "feature" = some none) :
    FnOk P w B.K mg base (L2.CX P w) 2 f fd ["self", "feature"] (spX (B.ca "InvalidNote") ["feature"]) :=
  Fn.okX sc_InvalidNote__init__ (fun vs H Q E h => by obtain ⟨a, ws, rfl, hl, _⟩ := h; simpa using hl) fun cdv A outer s H vs Q E hr h => ⟨_, (pss_one (ps_ost (pv 0) (pv 1))), oex1_body rfl X_InvalidNote n_InvalidNote_feature h⟩
abbrev N_InvalidOffice__init___ : List Str := ["self", "part", "label"]
theorem sc_InvalidOffice__init__ : FnScope N_InvalidOffice__init___ ["self", "part", "label"] (defScope (inClass (top 8) 0)) := ⟨rfl, rfl, rfl, by decide +kernel, rfl, by decide +kernel, by decide +kernel⟩
theorem ok_InvalidOffice__init__ {B : Bs} {f : Addr} {fd : FuncData} (Fn : Fun B.K "__init__" "InvalidOffice.__init__" (inClass (top 8) 0) f fd) (X_InvalidOffice : OexC B.K (B.ca "InvalidOffice")) (n_InvalidOffice_part : PySem.W.findIn B.K (.ref (B.ca "InvalidOffice")) "part" = some none) (n_InvalidOffice_label : PySem.W.findIn B.K (.ref (B.ca "InvalidOffice")) "label" = some none) :
    FnOk P w B.K mg base (L2.CX P w) 2 f fd ["self", "part", "label"] (spX (B.ca "InvalidOffice") ["part", "label"]) :=
  Fn.okX sc_InvalidOffice__init__ (fun vs H Q E h => by obtain ⟨a, ws, rfl, hl, _⟩ := h; simpa using hl) fun cdv A outer s H vs Q E hr h => ⟨_, (pss_cons (ps_ost (pv 0) (pv 1)) (pss_one (ps_ost (pv 0) (pv 2)))), oex2_body rfl X_InvalidOffice n_InvalidOffice_part n_InvalidOffice_label h⟩
theorem isiC_Catalog {B : Bs} {X : Cx} (hK : X.K = B.K) (i : C8.InsC B.K (B.ca "Catalog")) (h1 : PySem.W.kitOne B.K (.type "NoneType") (.ref (B.ca "Catalog")) = some false) (h2 : PySem.W.kitOne B.K (.type "bool") (.ref (B.ca "Catalog")) = some false) (h3 : PySem.W.kitOne B.K (.type "int") (.ref (B.ca "Catalog")) = some false) (h4 : PySem.W.kitOne B.K (.type "str") (.ref (B.ca "Catalog")) = some false) (h5 : PySem.W.kitOne B.K (.type "list") (.ref (B.ca "Catalog")) = some false) (h6 : PySem.W.kitOne B.K (.type "tuple") (.ref (B.ca "Catalog")) = some false) (h7 : PySem.W.kitOne B.K (.type "dict") (.ref (B.ca "Catalog")) = some false) : IsiOk B X [.ref (B.ca "Catalog")] isi_Catalog := by
  have only : ∀ c b, isi_Catalog (.ins c) = some b → c = "Catalog" ∧ b = true := fun c b h => by
    have h2 : (if c = "Catalog" then some true else none) = some b := h
    by_cases hc : c = "Catalog"
    · rw [if_pos hc] at h2
      exact ⟨hc, (Option.some.inj h2).symm⟩
    · rw [if_neg hc] at h2
      cases h2
  refine ⟨fun k b h => ?_, fun c b h => ?_⟩
  · rw [hK]
    cases k with
    | ins c =>
      obtain ⟨rfl, rfl⟩ := only c b h
      exact kit1 i.me
    | non => cases h; exact kit1 h1
    | bl => cases h; exact kit1 h2
    | int => cases h; exact kit1 h3
    | str => cases h; exact kit1 h4
    | lst => cases h; exact kit1 h5
    | tup => cases h; exact kit1 h6
    | dic => cases h; exact kit1 h7
  · obtain ⟨rfl, rfl⟩ := only c b h
    rw [hK]
    exact i
theorem isi_bool_ok {B : Bs} {X : Cx} : IsiOk B X [.type "bool"] isi_bool := by
  refine ⟨fun k b h => ?_, fun c b h => nomatch h⟩
  cases k with
  | ins c => cases h
  | _ => cases h; rfl
theorem isi_dict_ok {B : Bs} {X : Cx} : IsiOk B X [.type "dict"] isi_dict := by
  refine ⟨fun k b h => ?_, fun c b h => nomatch h⟩
  cases k with
  | ins c => cases h
  | _ => cases h; rfl
theorem isi_tuple_list_ok {B : Bs} {X : Cx} : IsiOk B X [.type "tuple", .type "list"] isi_tuple_list := by
  refine ⟨fun k b h => ?_, fun c b h => nomatch h⟩
  cases k with
  | ins c => cases h
  | _ => cases h; rfl
theorem isi_list_ok {B : Bs} {X : Cx} : IsiOk B X [.type "list"] isi_list := by
  refine ⟨fun k b h => ?_, fun c b h => nomatch h⟩
  cases k with
  | ins c => cases h
  | _ => cases h; rfl
theorem isi_str_ok {B : Bs} {X : Cx} : IsiOk B X [.type "str"] isi_str := by
  refine ⟨fun k b h => ?_, fun c b h => nomatch h⟩
  cases k with
  | ins c => cases h
  | _ => cases h; rfl
theorem isi_int_ok {B : Bs} {X : Cx} : IsiOk B X [.type "int"] isi_int := by
  refine ⟨fun k b h => ?_, fun c b h => nomatch h⟩
  cases k with
  | ins c => cases h
  | _ => cases h; rfl
theorem ca_ex (C1 C2 C3 C4 C5 C6 C7 C8 C9 C10 C11 : Addr) : ∃ ca : Str → Addr, C1 = ca "Catalog" ∧ C2 = ca "Note" ∧ C3 = ca "Thing" ∧ C4 = ca "Claim" ∧ C5 = ca "Office" ∧ C6 = ca "InvalidCatalog" ∧ C7 = ca "InvalidEntry" ∧ C8 = ca "InvalidNote" ∧ C9 = ca "InvalidOffice" ∧ C10 = ca "UnknownLabel" ∧ C11 = ca "UnknownFeature" :=
  ⟨fun c => if c = "Catalog" then C1 else if c = "Note" then C2 else if c = "Thing" then C3 else if c = "Claim" then C4 else if c = "Office" then C5 else if c = "InvalidCatalog" then C6 else if c = "InvalidEntry" then C7 else if c = "InvalidNote" then C8 else if c = "InvalidOffice" then C9 else if c = "UnknownLabel" then C10 else C11, (if_pos rfl).symm, ((if_neg (by decide +kernel)).trans (if_pos rfl)).symm, ((if_neg (by decide +kernel)).trans ((if_neg (by decide +kernel)).trans (if_pos rfl))).symm, ((if_neg (by decide +kernel)).trans ((if_neg (by decide +kernel)).trans ((if_neg (by decide +kernel)).trans (if_pos rfl)))).symm, ((if_neg (by decide +kernel)).trans ((if_neg (by decide +kernel)).trans ((if_neg (by decide +kernel)).trans ((if_neg (by decide +kernel)).trans (if_pos rfl))))).symm, ((if_neg (by decide +kernel)).trans ((if_neg (by decide +kernel)).trans ((if_neg (by decide +kernel)).trans ((if_neg (by decide +kernel)).trans ((if_neg (by decide +kernel)).trans (if_pos rfl)))))).symm, ((if_neg (by decide +kernel)).trans ((if_neg (by decide +kernel)).trans ((if_neg (by decide +kernel)).trans ((if_neg (by decide +kernel)).trans ((if_neg (by decide +kernel)).trans ((if_neg (by decide +kernel)).trans (if_pos rfl))))))).symm, ((if_neg (by decide +kernel)).trans ((if_neg (by decide +kernel)).trans ((if_neg (by decide +kernel)).trans ((if_neg (by decide +kernel)).trans ((if_neg (by decide +kernel)).trans ((if_neg (by decide +kernel)).trans ((if_neg (by decide +kernel)).trans (if_pos rfl)))))))).symm, ((if_neg (by decide +kernel)).trans ((if_neg (by decide +kernel)).trans ((if_neg (by decide +kernel)).trans ((if_neg (by decide +kernel)).trans ((if_neg (by decide +kernel)).trans ((if_neg (by decide +kernel)).trans ((if_neg (by decide +kernel)).trans ((if_neg (by decide +kernel)).trans (if_pos rfl))))))))).symm, ((if_neg (by decide +kernel)).trans ((if_neg (by decide +kernel)).trans ((if_neg (by decide +kernel)).trans ((if_neg (by decide +kernel)).trans ((if_neg (by decide +kernel)).trans ((if_neg (by decide +kernel)).trans ((if_neg (by decide +kernel)).trans ((if_neg (by decide +kernel)).trans ((if_neg (by decide +kernel)).trans (if_pos rfl)))))))))).symm, ((if_neg (by decide +kernel)).trans ((if_neg (by decide +kernel)).trans ((if_neg (by decide +kernel)).trans ((if_neg (by decide +kernel)).trans ((if_neg (by decide +kernel)).trans ((if_neg (by decide +kernel)).trans ((if_neg (by decide +kernel)).trans ((if_neg (by decide +kernel)).trans ((if_neg (by decide +kernel)).trans ((if_neg (by decide +kernel)).trans rfl)))))))))).symm⟩
set_option maxHeartbeats 4000000 in
theorem all_mk {l : PySem.W.OpenLaw} {w : World} {K : PySem.W.Frag} {h : Heap} {mg : Str → Option Value} {fa : Addr} (hev : ∀ (B : Bs) (ns : List Int), ns.length ≤ 63 → ∃ s, (p_law B).ev ((Sl.fr (.rol ns) :: List.replicate 11 Sl.no).set 1 (.fr .hnd)) ⟨mixF ns 6, ns, 0⟩ = .ret (.bl true) s) (X : K.In h) (G : h.Ns mainGlobals mg) (hfa : mg "law" = some (.ref fa))
    {C1 : Addr} {C2 : Addr} {C3 : Addr} {C4 : Addr} {C5 : Addr} {C6 : Addr} {C7 : Addr} {C8 : Addr} {C9 : Addr} {C10 : Addr} {C11 : Addr} {a__law_next : Addr} {od__law_next an__law_next : Option Addr} {sl__law_next : Array (Option Value)} {oc__law_next kV__law_next dc__law_next pm__law_next cd__law_next ct__law_next : Value} {a__law_features : Addr} {od__law_features an__law_features : Option Addr} {sl__law_features : Array (Option Value)} {oc__law_features kV__law_features dc__law_features pm__law_features cd__law_features ct__law_features : Value} {a__law_some : Addr} {od__law_some an__law_some : Option Addr} {sl__law_some : Array (Option Value)} {oc__law_some kV__law_some dc__law_some pm__law_some cd__law_some ct__law_some : Value} {a__law_sets : Addr} {od__law_sets an__law_sets : Option Addr} {sl__law_sets : Array (Option Value)} {oc__law_sets kV__law_sets dc__law_sets pm__law_sets cd__law_sets ct__law_sets : Value} {a__law_drawn : Addr} {od__law_drawn an__law_drawn : Option Addr} {sl__law_drawn : Array (Option Value)} {oc__law_drawn kV__law_drawn dc__law_drawn pm__law_drawn cd__law_drawn ct__law_drawn : Value} {a_is_word : Addr} {od_is_word an_is_word : Option Addr} {sl_is_word : Array (Option Value)} {oc_is_word kV_is_word dc_is_word pm_is_word cd_is_word ct_is_word : Value} {a_ascends : Addr} {od_ascends an_ascends : Option Addr} {sl_ascends : Array (Option Value)} {oc_ascends kV_ascends dc_ascends pm_ascends cd_ascends ct_ascends : Value} {a_is_feature : Addr} {od_is_feature an_is_feature : Option Addr} {sl_is_feature : Array (Option Value)} {oc_is_feature kV_is_feature dc_is_feature pm_is_feature cd_is_feature ct_is_feature : Value} {a_in_range : Addr} {od_in_range an_in_range : Option Addr} {sl_in_range : Array (Option Value)} {oc_in_range kV_in_range dc_in_range pm_in_range cd_in_range ct_in_range : Value} {a_is_choice : Addr} {od_is_choice an_is_choice : Option Addr} {sl_is_choice : Array (Option Value)} {oc_is_choice kV_is_choice dc_is_choice pm_is_choice cd_is_choice ct_is_choice : Value} {a__law_note : Addr} {od__law_note an__law_note : Option Addr} {sl__law_note : Array (Option Value)} {oc__law_note kV__law_note dc__law_note pm__law_note cd__law_note ct__law_note : Value} {a_check_entries : Addr} {od_check_entries an_check_entries : Option Addr} {sl_check_entries : Array (Option Value)} {oc_check_entries kV_check_entries dc_check_entries pm_check_entries cd_check_entries ct_check_entries : Value} {a_in_order : Addr} {od_in_order an_in_order : Option Addr} {sl_in_order : Array (Option Value)} {oc_in_order kV_in_order dc_in_order pm_in_order cd_in_order ct_in_order : Value} {a__law_office : Addr} {od__law_office an__law_office : Option Addr} {sl__law_office : Array (Option Value)} {oc__law_office kV__law_office dc__law_office pm__law_office cd__law_office ct__law_office : Value} {a__law_apart : Addr} {od__law_apart an__law_apart : Option Addr} {sl__law_apart : Array (Option Value)} {oc__law_apart kV__law_apart dc__law_apart pm__law_apart cd__law_apart ct__law_apart : Value} {a__law_can : Addr} {od__law_can an__law_can : Option Addr} {sl__law_can : Array (Option Value)} {oc__law_can kV__law_can dc__law_can pm__law_can cd__law_can ct__law_can : Value} {a__law_alike : Addr} {od__law_alike an__law_alike : Option Addr} {sl__law_alike : Array (Option Value)} {oc__law_alike kV__law_alike dc__law_alike pm__law_alike cd__law_alike ct__law_alike : Value} {a_claim_of : Addr} {od_claim_of an_claim_of : Option Addr} {sl_claim_of : Array (Option Value)} {oc_claim_of kV_claim_of dc_claim_of pm_claim_of cd_claim_of ct_claim_of : Value} {a_thing_of : Addr} {od_thing_of an_thing_of : Option Addr} {sl_thing_of : Array (Option Value)} {oc_thing_of kV_thing_of dc_thing_of pm_thing_of cd_thing_of ct_thing_of : Value} {a_common_values : Addr} {od_common_values an_common_values : Option Addr} {sl_common_values : Array (Option Value)} {oc_common_values kV_common_values dc_common_values pm_common_values cd_common_values ct_common_values : Value} {a_misfits : Addr} {od_misfits an_misfits : Option Addr} {sl_misfits : Array (Option Value)} {oc_misfits kV_misfits dc_misfits pm_misfits cd_misfits ct_misfits : Value} {a_fits : Addr} {od_fits an_fits : Option Addr} {sl_fits : Array (Option Value)} {oc_fits kV_fits dc_fits pm_fits cd_fits ct_fits : Value} {a_candidates : Addr} {od_candidates an_candidates : Option Addr} {sl_candidates : Array (Option Value)} {oc_candidates kV_candidates dc_candidates pm_candidates cd_candidates ct_candidates : Value} {a_rivals : Addr} {od_rivals an_rivals : Option Addr} {sl_rivals : Array (Option Value)} {oc_rivals kV_rivals dc_rivals pm_rivals cd_rivals ct_rivals : Value} {a_lonely : Addr} {od_lonely an_lonely : Option Addr} {sl_lonely : Array (Option Value)} {oc_lonely kV_lonely dc_lonely pm_lonely cd_lonely ct_lonely : Value} {a__law_mix : Addr} {od__law_mix an__law_mix : Option Addr} {sl__law_mix : Array (Option Value)} {oc__law_mix kV__law_mix dc__law_mix pm__law_mix cd__law_mix ct__law_mix : Value} {a_law : Addr} {od_law an_law : Option Addr} {sl_law : Array (Option Value)} {oc_law kV_law dc_law pm_law cd_law ct_law : Value} {a_Catalog__init__ : Addr} {od_Catalog__init__ an_Catalog__init__ : Option Addr} {sl_Catalog__init__ : Array (Option Value)} {oc_Catalog__init__ kV_Catalog__init__ dc_Catalog__init__ pm_Catalog__init__ cd_Catalog__init__ ct_Catalog__init__ : Value} {a_Thing__init__ : Addr} {od_Thing__init__ an_Thing__init__ : Option Addr} {sl_Thing__init__ : Array (Option Value)} {oc_Thing__init__ kV_Thing__init__ dc_Thing__init__ pm_Thing__init__ cd_Thing__init__ ct_Thing__init__ : Value} {a_Catalog__contains__ : Addr} {od_Catalog__contains__ an_Catalog__contains__ : Option Addr} {sl_Catalog__contains__ : Array (Option Value)} {oc_Catalog__contains__ kV_Catalog__contains__ dc_Catalog__contains__ pm_Catalog__contains__ cd_Catalog__contains__ ct_Catalog__contains__ : Value} {a_Note__init__ : Addr} {od_Note__init__ an_Note__init__ : Option Addr} {sl_Note__init__ : Array (Option Value)} {oc_Note__init__ kV_Note__init__ dc_Note__init__ pm_Note__init__ cd_Note__init__ ct_Note__init__ : Value} {a_Claim__init__ : Addr} {od_Claim__init__ an_Claim__init__ : Option Addr} {sl_Claim__init__ : Array (Option Value)} {oc_Claim__init__ kV_Claim__init__ dc_Claim__init__ pm_Claim__init__ cd_Claim__init__ ct_Claim__init__ : Value} {T_Claim__init__ : Addr} {oT_Claim__init__ : Value} {dT_Claim__init__ : Option Addr} {sT_Claim__init__ : Array (Option Value)} {nT_Claim__init__ : Nat} {u0_Claim__init__ u1_Claim__init__ : Tok} {a_Catalog__eq__ : Addr} {od_Catalog__eq__ an_Catalog__eq__ : Option Addr} {sl_Catalog__eq__ : Array (Option Value)} {oc_Catalog__eq__ kV_Catalog__eq__ dc_Catalog__eq__ pm_Catalog__eq__ cd_Catalog__eq__ ct_Catalog__eq__ : Value} {a_Office__init__ : Addr} {od_Office__init__ an_Office__init__ : Option Addr} {sl_Office__init__ : Array (Option Value)} {oc_Office__init__ kV_Office__init__ dc_Office__init__ pm_Office__init__ cd_Office__init__ ct_Office__init__ : Value} {a_Note__getitem__ : Addr} {od_Note__getitem__ an_Note__getitem__ : Option Addr} {sl_Note__getitem__ : Array (Option Value)} {oc_Note__getitem__ kV_Note__getitem__ dc_Note__getitem__ pm_Note__getitem__ cd_Note__getitem__ ct_Note__getitem__ : Value} {pr_Catalog_features : Addr} {rest_Catalog_features : List Value} {a_Catalog_features : Addr} {od_Catalog_features an_Catalog_features : Option Addr} {sl_Catalog_features : Array (Option Value)} {oc_Catalog_features kV_Catalog_features dc_Catalog_features pm_Catalog_features cd_Catalog_features ct_Catalog_features : Value} {pr_Claim_note : Addr} {rest_Claim_note : List Value} {a_Claim_note : Addr} {od_Claim_note an_Claim_note : Option Addr} {sl_Claim_note : Array (Option Value)} {oc_Claim_note kV_Claim_note dc_Claim_note pm_Claim_note cd_Claim_note ct_Claim_note : Value} {pr_Thing_note : Addr} {rest_Thing_note : List Value} {a_Thing_note : Addr} {od_Thing_note an_Thing_note : Option Addr} {sl_Thing_note : Array (Option Value)} {oc_Thing_note kV_Thing_note dc_Thing_note pm_Thing_note cd_Thing_note ct_Thing_note : Value} {pr_Note_catalog : Addr} {rest_Note_catalog : List Value} {a_Note_catalog : Addr} {od_Note_catalog an_Note_catalog : Option Addr} {sl_Note_catalog : Array (Option Value)} {oc_Note_catalog kV_Note_catalog dc_Note_catalog pm_Note_catalog cd_Note_catalog ct_Note_catalog : Value} {pr_Office_claims : Addr} {rest_Office_claims : List Value} {a_Office_claims : Addr} {od_Office_claims an_Office_claims : Option Addr} {sl_Office_claims : Array (Option Value)} {oc_Office_claims kV_Office_claims dc_Office_claims pm_Office_claims cd_Office_claims ct_Office_claims : Value} {pr_Office_things : Addr} {rest_Office_things : List Value} {a_Office_things : Addr} {od_Office_things an_Office_things : Option Addr} {sl_Office_things : Array (Option Value)} {oc_Office_things kV_Office_things dc_Office_things pm_Office_things cd_Office_things ct_Office_things : Value} {pr_Claim_day : Addr} {rest_Claim_day : List Value} {a_Claim_day : Addr} {od_Claim_day an_Claim_day : Option Addr} {sl_Claim_day : Array (Option Value)} {oc_Claim_day kV_Claim_day dc_Claim_day pm_Claim_day cd_Claim_day ct_Claim_day : Value} {pr_Thing_day : Addr} {rest_Thing_day : List Value} {a_Thing_day : Addr} {od_Thing_day an_Thing_day : Option Addr} {sl_Thing_day : Array (Option Value)} {oc_Thing_day kV_Thing_day dc_Thing_day pm_Thing_day cd_Thing_day ct_Thing_day : Value} {pr_Office_catalog : Addr} {rest_Office_catalog : List Value} {a_Office_catalog : Addr} {od_Office_catalog an_Office_catalog : Option Addr} {sl_Office_catalog : Array (Option Value)} {oc_Office_catalog kV_Office_catalog dc_Office_catalog pm_Office_catalog cd_Office_catalog ct_Office_catalog : Value} {pr_Catalog_names : Addr} {rest_Catalog_names : List Value} {a_Catalog_names : Addr} {od_Catalog_names an_Catalog_names : Option Addr} {sl_Catalog_names : Array (Option Value)} {oc_Catalog_names kV_Catalog_names dc_Catalog_names pm_Catalog_names cd_Catalog_names ct_Catalog_names : Value} {pr_Claim_slips : Addr} {rest_Claim_slips : List Value} {a_Claim_slips : Addr} {od_Claim_slips an_Claim_slips : Option Addr} {sl_Claim_slips : Array (Option Value)} {oc_Claim_slips kV_Claim_slips dc_Claim_slips pm_Claim_slips cd_Claim_slips ct_Claim_slips : Value} {a_InvalidCatalog__init__ : Addr} {od_InvalidCatalog__init__ an_InvalidCatalog__init__ : Option Addr} {sl_InvalidCatalog__init__ : Array (Option Value)} {oc_InvalidCatalog__init__ kV_InvalidCatalog__init__ dc_InvalidCatalog__init__ pm_InvalidCatalog__init__ cd_InvalidCatalog__init__ ct_InvalidCatalog__init__ : Value} {nm_InvalidCatalog q_InvalidCatalog : Str} {N_InvalidCatalog : Addr} {bs_InvalidCatalog bm_InvalidCatalog : List Value} {sn_InvalidCatalog : List Str} {sub_InvalidCatalog : List Value} {ab_InvalidCatalog : Bool} {col_InvalidCatalog : Option Bool} {dd_InvalidCatalog : Option Addr} {k0_InvalidCatalog k1_InvalidCatalog k2_InvalidCatalog k3_InvalidCatalog k5_InvalidCatalog : Option Value} {a_InvalidEntry__init__ : Addr} {od_InvalidEntry__init__ an_InvalidEntry__init__ : Option Addr} {sl_InvalidEntry__init__ : Array (Option Value)} {oc_InvalidEntry__init__ kV_InvalidEntry__init__ dc_InvalidEntry__init__ pm_InvalidEntry__init__ cd_InvalidEntry__init__ ct_InvalidEntry__init__ : Value} {nm_InvalidEntry q_InvalidEntry : Str} {N_InvalidEntry : Addr} {bs_InvalidEntry bm_InvalidEntry : List Value} {sn_InvalidEntry : List Str} {sub_InvalidEntry : List Value} {ab_InvalidEntry : Bool} {col_InvalidEntry : Option Bool} {dd_InvalidEntry : Option Addr} {k0_InvalidEntry k1_InvalidEntry k2_InvalidEntry k3_InvalidEntry k5_InvalidEntry : Option Value} {a_InvalidNote__init__ : Addr} {od_InvalidNote__init__ an_InvalidNote__init__ : Option Addr} {sl_InvalidNote__init__ : Array (Option Value)} {oc_InvalidNote__init__ kV_InvalidNote__init__ dc_InvalidNote__init__ pm_InvalidNote__init__ cd_InvalidNote__init__ ct_InvalidNote__init__ : Value} {nm_InvalidNote q_InvalidNote : Str} {N_InvalidNote : Addr} {bs_InvalidNote bm_InvalidNote : List Value} {sn_InvalidNote : List Str} {sub_InvalidNote : List Value} {ab_InvalidNote : Bool} {col_InvalidNote : Option Bool} {dd_InvalidNote : Option Addr} {k0_InvalidNote k1_InvalidNote k2_InvalidNote k3_InvalidNote k5_InvalidNote : Option Value} {a_InvalidOffice__init__ : Addr} {od_InvalidOffice__init__ an_InvalidOffice__init__ : Option Addr} {sl_InvalidOffice__init__ : Array (Option Value)} {oc_InvalidOffice__init__ kV_InvalidOffice__init__ dc_InvalidOffice__init__ pm_InvalidOffice__init__ cd_InvalidOffice__init__ ct_InvalidOffice__init__ : Value} {nm_InvalidOffice q_InvalidOffice : Str} {N_InvalidOffice : Addr} {bs_InvalidOffice bm_InvalidOffice : List Value} {sn_InvalidOffice : List Str} {sub_InvalidOffice : List Value} {ab_InvalidOffice : Bool} {col_InvalidOffice : Option Bool} {dd_InvalidOffice : Option Addr} {k0_InvalidOffice k1_InvalidOffice k2_InvalidOffice k3_InvalidOffice k5_InvalidOffice : Option Value} {t_MOST_FEATURES : Tok} {t_FEWEST_VALUES : Tok} {t_MOST_VALUES : Tok} {t_MOST_LETTERS : Tok} {t_LAST_DAY : Tok} {t_MOST_SLIPS : Tok} {t_MOST_WORTH : Tok} {t_MOST_ENTRIES : Tok}
    (y_Catalog : PySem.W.nsIn K mainGlobals "Catalog" = some (some (.ref C1)))
    (y_Note : PySem.W.nsIn K mainGlobals "Note" = some (some (.ref C2)))
    (y_Thing : PySem.W.nsIn K mainGlobals "Thing" = some (some (.ref C3)))
    (y_Claim : PySem.W.nsIn K mainGlobals "Claim" = some (some (.ref C4)))
    (y_Office : PySem.W.nsIn K mainGlobals "Office" = some (some (.ref C5)))
    (y_InvalidCatalog : PySem.W.nsIn K mainGlobals "InvalidCatalog" = some (some (.ref C6)))
    (y_InvalidEntry : PySem.W.nsIn K mainGlobals "InvalidEntry" = some (some (.ref C7)))
    (y_InvalidNote : PySem.W.nsIn K mainGlobals "InvalidNote" = some (some (.ref C8)))
    (y_InvalidOffice : PySem.W.nsIn K mainGlobals "InvalidOffice" = some (some (.ref C9)))
    (y_UnknownLabel : PySem.W.nsIn K mainGlobals "UnknownLabel" = some (some (.ref C10)))
    (y_UnknownFeature : PySem.W.nsIn K mainGlobals "UnknownFeature" = some (some (.ref C11)))
    (y__law_next : PySem.W.nsIn K mainGlobals "_law_next" = some (some (.ref a__law_next)))
    (l__law_next : K.lookup a__law_next = some ⟨oc__law_next, od__law_next, .func (PySem.W.fnOf "_law_next" "_law_next" (defArgs (top 45)) (defBody (top 45)) (defScope (top 45)) .none kV__law_next dc__law_next pm__law_next an__law_next cd__law_next ct__law_next), sl__law_next⟩)
    (c__law_next : PySem.W.codeIn K cd__law_next "_law_next" = true)
    (kp__law_next : PySem.W.keepIn K (.ref a__law_next) = true)
    (y__law_features : PySem.W.nsIn K mainGlobals "_law_features" = some (some (.ref a__law_features)))
    (l__law_features : K.lookup a__law_features = some ⟨oc__law_features, od__law_features, .func (PySem.W.fnOf "_law_features" "_law_features" (defArgs (top 47)) (defBody (top 47)) (defScope (top 47)) .none kV__law_features dc__law_features pm__law_features an__law_features cd__law_features ct__law_features), sl__law_features⟩)
    (c__law_features : PySem.W.codeIn K cd__law_features "_law_features" = true)
    (kp__law_features : PySem.W.keepIn K (.ref a__law_features) = true)
    (y__law_some : PySem.W.nsIn K mainGlobals "_law_some" = some (some (.ref a__law_some)))
    (l__law_some : K.lookup a__law_some = some ⟨oc__law_some, od__law_some, .func (PySem.W.fnOf "_law_some" "_law_some" (defArgs (top 48)) (defBody (top 48)) (defScope (top 48)) .none kV__law_some dc__law_some pm__law_some an__law_some cd__law_some ct__law_some), sl__law_some⟩)
    (c__law_some : PySem.W.codeIn K cd__law_some "_law_some" = true)
    (kp__law_some : PySem.W.keepIn K (.ref a__law_some) = true)
    (y__law_sets : PySem.W.nsIn K mainGlobals "_law_sets" = some (some (.ref a__law_sets)))
    (l__law_sets : K.lookup a__law_sets = some ⟨oc__law_sets, od__law_sets, .func (PySem.W.fnOf "_law_sets" "_law_sets" (defArgs (top 49)) (defBody (top 49)) (defScope (top 49)) .none kV__law_sets dc__law_sets pm__law_sets an__law_sets cd__law_sets ct__law_sets), sl__law_sets⟩)
    (c__law_sets : PySem.W.codeIn K cd__law_sets "_law_sets" = true)
    (kp__law_sets : PySem.W.keepIn K (.ref a__law_sets) = true)
    (y__law_drawn : PySem.W.nsIn K mainGlobals "_law_drawn" = some (some (.ref a__law_drawn)))
    (l__law_drawn : K.lookup a__law_drawn = some ⟨oc__law_drawn, od__law_drawn, .func (PySem.W.fnOf "_law_drawn" "_law_drawn" (defArgs (top 50)) (defBody (top 50)) (defScope (top 50)) .none kV__law_drawn dc__law_drawn pm__law_drawn an__law_drawn cd__law_drawn ct__law_drawn), sl__law_drawn⟩)
    (c__law_drawn : PySem.W.codeIn K cd__law_drawn "_law_drawn" = true)
    (kp__law_drawn : PySem.W.keepIn K (.ref a__law_drawn) = true)
    (y_is_word : PySem.W.nsIn K mainGlobals "is_word" = some (some (.ref a_is_word)))
    (l_is_word : K.lookup a_is_word = some ⟨oc_is_word, od_is_word, .func (PySem.W.fnOf "is_word" "is_word" (defArgs (top 15)) (defBody (top 15)) (defScope (top 15)) .none kV_is_word dc_is_word pm_is_word an_is_word cd_is_word ct_is_word), sl_is_word⟩)
    (c_is_word : PySem.W.codeIn K cd_is_word "is_word" = true)
    (kp_is_word : PySem.W.keepIn K (.ref a_is_word) = true)
    (y_ascends : PySem.W.nsIn K mainGlobals "ascends" = some (some (.ref a_ascends)))
    (l_ascends : K.lookup a_ascends = some ⟨oc_ascends, od_ascends, .func (PySem.W.fnOf "ascends" "ascends" (defArgs (top 16)) (defBody (top 16)) (defScope (top 16)) .none kV_ascends dc_ascends pm_ascends an_ascends cd_ascends ct_ascends), sl_ascends⟩)
    (c_ascends : PySem.W.codeIn K cd_ascends "ascends" = true)
    (kp_ascends : PySem.W.keepIn K (.ref a_ascends) = true)
    (y_is_feature : PySem.W.nsIn K mainGlobals "is_feature" = some (some (.ref a_is_feature)))
    (l_is_feature : K.lookup a_is_feature = some ⟨oc_is_feature, od_is_feature, .func (PySem.W.fnOf "is_feature" "is_feature" (defArgs (top 17)) (defBody (top 17)) (defScope (top 17)) .none kV_is_feature dc_is_feature pm_is_feature an_is_feature cd_is_feature ct_is_feature), sl_is_feature⟩)
    (c_is_feature : PySem.W.codeIn K cd_is_feature "is_feature" = true)
    (kp_is_feature : PySem.W.keepIn K (.ref a_is_feature) = true)
    (y_in_range : PySem.W.nsIn K mainGlobals "in_range" = some (some (.ref a_in_range)))
    (l_in_range : K.lookup a_in_range = some ⟨oc_in_range, od_in_range, .func (PySem.W.fnOf "in_range" "in_range" (defArgs (top 28)) (defBody (top 28)) (defScope (top 28)) .none kV_in_range dc_in_range pm_in_range an_in_range cd_in_range ct_in_range), sl_in_range⟩)
    (c_in_range : PySem.W.codeIn K cd_in_range "in_range" = true)
    (kp_in_range : PySem.W.keepIn K (.ref a_in_range) = true)
    (y_is_choice : PySem.W.nsIn K mainGlobals "is_choice" = some (some (.ref a_is_choice)))
    (l_is_choice : K.lookup a_is_choice = some ⟨oc_is_choice, od_is_choice, .func (PySem.W.fnOf "is_choice" "is_choice" (defArgs (top 20)) (defBody (top 20)) (defScope (top 20)) .none kV_is_choice dc_is_choice pm_is_choice an_is_choice cd_is_choice ct_is_choice), sl_is_choice⟩)
    (c_is_choice : PySem.W.codeIn K cd_is_choice "is_choice" = true)
    (kp_is_choice : PySem.W.keepIn K (.ref a_is_choice) = true)
    (y__law_note : PySem.W.nsIn K mainGlobals "_law_note" = some (some (.ref a__law_note)))
    (l__law_note : K.lookup a__law_note = some ⟨oc__law_note, od__law_note, .func (PySem.W.fnOf "_law_note" "_law_note" (defArgs (top 51)) (defBody (top 51)) (defScope (top 51)) .none kV__law_note dc__law_note pm__law_note an__law_note cd__law_note ct__law_note), sl__law_note⟩)
    (c__law_note : PySem.W.codeIn K cd__law_note "_law_note" = true)
    (kp__law_note : PySem.W.keepIn K (.ref a__law_note) = true)
    (y_check_entries : PySem.W.nsIn K mainGlobals "check_entries" = some (some (.ref a_check_entries)))
    (l_check_entries : K.lookup a_check_entries = some ⟨oc_check_entries, od_check_entries, .func (PySem.W.fnOf "check_entries" "check_entries" (defArgs (top 31)) (defBody (top 31)) (defScope (top 31)) .none kV_check_entries dc_check_entries pm_check_entries an_check_entries cd_check_entries ct_check_entries), sl_check_entries⟩)
    (c_check_entries : PySem.W.codeIn K cd_check_entries "check_entries" = true)
    (kp_check_entries : PySem.W.keepIn K (.ref a_check_entries) = true)
    (y_in_order : PySem.W.nsIn K mainGlobals "in_order" = some (some (.ref a_in_order)))
    (l_in_order : K.lookup a_in_order = some ⟨oc_in_order, od_in_order, .func (PySem.W.fnOf "in_order" "in_order" (defArgs (top 32)) (defBody (top 32)) (defScope (top 32)) .none kV_in_order dc_in_order pm_in_order an_in_order cd_in_order ct_in_order), sl_in_order⟩)
    (c_in_order : PySem.W.codeIn K cd_in_order "in_order" = true)
    (kp_in_order : PySem.W.keepIn K (.ref a_in_order) = true)
    (y__law_office : PySem.W.nsIn K mainGlobals "_law_office" = some (some (.ref a__law_office)))
    (l__law_office : K.lookup a__law_office = some ⟨oc__law_office, od__law_office, .func (PySem.W.fnOf "_law_office" "_law_office" (defArgs (top 52)) (defBody (top 52)) (defScope (top 52)) .none kV__law_office dc__law_office pm__law_office an__law_office cd__law_office ct__law_office), sl__law_office⟩)
    (c__law_office : PySem.W.codeIn K cd__law_office "_law_office" = true)
    (kp__law_office : PySem.W.keepIn K (.ref a__law_office) = true)
    (y__law_apart : PySem.W.nsIn K mainGlobals "_law_apart" = some (some (.ref a__law_apart)))
    (l__law_apart : K.lookup a__law_apart = some ⟨oc__law_apart, od__law_apart, .func (PySem.W.fnOf "_law_apart" "_law_apart" (defArgs (top 53)) (defBody (top 53)) (defScope (top 53)) .none kV__law_apart dc__law_apart pm__law_apart an__law_apart cd__law_apart ct__law_apart), sl__law_apart⟩)
    (c__law_apart : PySem.W.codeIn K cd__law_apart "_law_apart" = true)
    (kp__law_apart : PySem.W.keepIn K (.ref a__law_apart) = true)
    (y__law_can : PySem.W.nsIn K mainGlobals "_law_can" = some (some (.ref a__law_can)))
    (l__law_can : K.lookup a__law_can = some ⟨oc__law_can, od__law_can, .func (PySem.W.fnOf "_law_can" "_law_can" (defArgs (top 54)) (defBody (top 54)) (defScope (top 54)) .none kV__law_can dc__law_can pm__law_can an__law_can cd__law_can ct__law_can), sl__law_can⟩)
    (c__law_can : PySem.W.codeIn K cd__law_can "_law_can" = true)
    (kp__law_can : PySem.W.keepIn K (.ref a__law_can) = true)
    (y__law_alike : PySem.W.nsIn K mainGlobals "_law_alike" = some (some (.ref a__law_alike)))
    (l__law_alike : K.lookup a__law_alike = some ⟨oc__law_alike, od__law_alike, .func (PySem.W.fnOf "_law_alike" "_law_alike" (defArgs (top 46)) (defBody (top 46)) (defScope (top 46)) .none kV__law_alike dc__law_alike pm__law_alike an__law_alike cd__law_alike ct__law_alike), sl__law_alike⟩)
    (c__law_alike : PySem.W.codeIn K cd__law_alike "_law_alike" = true)
    (kp__law_alike : PySem.W.keepIn K (.ref a__law_alike) = true)
    (y_claim_of : PySem.W.nsIn K mainGlobals "claim_of" = some (some (.ref a_claim_of)))
    (l_claim_of : K.lookup a_claim_of = some ⟨oc_claim_of, od_claim_of, .func (PySem.W.fnOf "claim_of" "claim_of" (defArgs (top 35)) (defBody (top 35)) (defScope (top 35)) .none kV_claim_of dc_claim_of pm_claim_of an_claim_of cd_claim_of ct_claim_of), sl_claim_of⟩)
    (c_claim_of : PySem.W.codeIn K cd_claim_of "claim_of" = true)
    (kp_claim_of : PySem.W.keepIn K (.ref a_claim_of) = true)
    (y_thing_of : PySem.W.nsIn K mainGlobals "thing_of" = some (some (.ref a_thing_of)))
    (l_thing_of : K.lookup a_thing_of = some ⟨oc_thing_of, od_thing_of, .func (PySem.W.fnOf "thing_of" "thing_of" (defArgs (top 36)) (defBody (top 36)) (defScope (top 36)) .none kV_thing_of dc_thing_of pm_thing_of an_thing_of cd_thing_of ct_thing_of), sl_thing_of⟩)
    (c_thing_of : PySem.W.codeIn K cd_thing_of "thing_of" = true)
    (kp_thing_of : PySem.W.keepIn K (.ref a_thing_of) = true)
    (y_common_values : PySem.W.nsIn K mainGlobals "common_values" = some (some (.ref a_common_values)))
    (l_common_values : K.lookup a_common_values = some ⟨oc_common_values, od_common_values, .func (PySem.W.fnOf "common_values" "common_values" (defArgs (top 21)) (defBody (top 21)) (defScope (top 21)) .none kV_common_values dc_common_values pm_common_values an_common_values cd_common_values ct_common_values), sl_common_values⟩)
    (c_common_values : PySem.W.codeIn K cd_common_values "common_values" = true)
    (kp_common_values : PySem.W.keepIn K (.ref a_common_values) = true)
    (y_misfits : PySem.W.nsIn K mainGlobals "misfits" = some (some (.ref a_misfits)))
    (l_misfits : K.lookup a_misfits = some ⟨oc_misfits, od_misfits, .func (PySem.W.fnOf "misfits" "misfits" (defArgs (top 38)) (defBody (top 38)) (defScope (top 38)) .none kV_misfits dc_misfits pm_misfits an_misfits cd_misfits ct_misfits), sl_misfits⟩)
    (c_misfits : PySem.W.codeIn K cd_misfits "misfits" = true)
    (kp_misfits : PySem.W.keepIn K (.ref a_misfits) = true)
    (y_fits : PySem.W.nsIn K mainGlobals "fits" = some (some (.ref a_fits)))
    (l_fits : K.lookup a_fits = some ⟨oc_fits, od_fits, .func (PySem.W.fnOf "fits" "fits" (defArgs (top 39)) (defBody (top 39)) (defScope (top 39)) .none kV_fits dc_fits pm_fits an_fits cd_fits ct_fits), sl_fits⟩)
    (c_fits : PySem.W.codeIn K cd_fits "fits" = true)
    (kp_fits : PySem.W.keepIn K (.ref a_fits) = true)
    (y_candidates : PySem.W.nsIn K mainGlobals "candidates" = some (some (.ref a_candidates)))
    (l_candidates : K.lookup a_candidates = some ⟨oc_candidates, od_candidates, .func (PySem.W.fnOf "candidates" "candidates" (defArgs (top 40)) (defBody (top 40)) (defScope (top 40)) .none kV_candidates dc_candidates pm_candidates an_candidates cd_candidates ct_candidates), sl_candidates⟩)
    (c_candidates : PySem.W.codeIn K cd_candidates "candidates" = true)
    (kp_candidates : PySem.W.keepIn K (.ref a_candidates) = true)
    (y_rivals : PySem.W.nsIn K mainGlobals "rivals" = some (some (.ref a_rivals)))
    (l_rivals : K.lookup a_rivals = some ⟨oc_rivals, od_rivals, .func (PySem.W.fnOf "rivals" "rivals" (defArgs (top 42)) (defBody (top 42)) (defScope (top 42)) .none kV_rivals dc_rivals pm_rivals an_rivals cd_rivals ct_rivals), sl_rivals⟩)
    (c_rivals : PySem.W.codeIn K cd_rivals "rivals" = true)
    (kp_rivals : PySem.W.keepIn K (.ref a_rivals) = true)
    (y_lonely : PySem.W.nsIn K mainGlobals "lonely" = some (some (.ref a_lonely)))
    (l_lonely : K.lookup a_lonely = some ⟨oc_lonely, od_lonely, .func (PySem.W.fnOf "lonely" "lonely" (defArgs (top 41)) (defBody (top 41)) (defScope (top 41)) .none kV_lonely dc_lonely pm_lonely an_lonely cd_lonely ct_lonely), sl_lonely⟩)
    (c_lonely : PySem.W.codeIn K cd_lonely "lonely" = true)
    (kp_lonely : PySem.W.keepIn K (.ref a_lonely) = true)
    (y__law_mix : PySem.W.nsIn K mainGlobals "_law_mix" = some (some (.ref a__law_mix)))
    (l__law_mix : K.lookup a__law_mix = some ⟨oc__law_mix, od__law_mix, .func (PySem.W.fnOf "_law_mix" "_law_mix" (defArgs (top 44)) (defBody (top 44)) (defScope (top 44)) .none kV__law_mix dc__law_mix pm__law_mix an__law_mix cd__law_mix ct__law_mix), sl__law_mix⟩)
    (c__law_mix : PySem.W.codeIn K cd__law_mix "_law_mix" = true)
    (kp__law_mix : PySem.W.keepIn K (.ref a__law_mix) = true)
    (y_law : PySem.W.nsIn K mainGlobals "law" = some (some (.ref a_law)))
    (l_law : K.lookup a_law = some ⟨oc_law, od_law, .func (PySem.W.fnOf "law" "law" (defArgs (top 55)) (defBody (top 55)) (defScope (top 55)) .none kV_law dc_law pm_law an_law cd_law ct_law), sl_law⟩)
    (c_law : PySem.W.codeIn K cd_law "law" = true)
    (kp_law : PySem.W.keepIn K (.ref a_law) = true)
    (y_Catalog__init__ : PySem.W.findIn K (.ref C1) "__init__" = some (some (.ref a_Catalog__init__)))
    (l_Catalog__init__ : K.lookup a_Catalog__init__ = some ⟨oc_Catalog__init__, od_Catalog__init__, .func (PySem.W.fnOf "__init__" "Catalog.__init__" (defArgs (inClass (top 18) 0)) (defBody (inClass (top 18) 0)) (defScope (inClass (top 18) 0)) .none kV_Catalog__init__ dc_Catalog__init__ pm_Catalog__init__ an_Catalog__init__ cd_Catalog__init__ ct_Catalog__init__), sl_Catalog__init__⟩)
    (c_Catalog__init__ : PySem.W.codeIn K cd_Catalog__init__ "Catalog.__init__" = true)
    (kp_Catalog__init__ : PySem.W.keepIn K (.ref a_Catalog__init__) = true)
    (f_Catalog__init__ : PySem.W.isFn K (.ref a_Catalog__init__) = true)
    (fi_Catalog__init__ : PySem.W.fnIn K a_Catalog__init__ = true)
    (y_Thing__init__ : PySem.W.findIn K (.ref C3) "__init__" = some (some (.ref a_Thing__init__)))
    (l_Thing__init__ : K.lookup a_Thing__init__ = some ⟨oc_Thing__init__, od_Thing__init__, .func (PySem.W.fnOf "__init__" "Thing.__init__" (defArgs (inClass (top 29) 0)) (defBody (inClass (top 29) 0)) (defScope (inClass (top 29) 0)) .none kV_Thing__init__ dc_Thing__init__ pm_Thing__init__ an_Thing__init__ cd_Thing__init__ ct_Thing__init__), sl_Thing__init__⟩)
    (c_Thing__init__ : PySem.W.codeIn K cd_Thing__init__ "Thing.__init__" = true)
    (kp_Thing__init__ : PySem.W.keepIn K (.ref a_Thing__init__) = true)
    (f_Thing__init__ : PySem.W.isFn K (.ref a_Thing__init__) = true)
    (fi_Thing__init__ : PySem.W.fnIn K a_Thing__init__ = true)
    (y_Catalog__contains__ : PySem.W.findIn K (.ref C1) "__contains__" = some (some (.ref a_Catalog__contains__)))
    (l_Catalog__contains__ : K.lookup a_Catalog__contains__ = some ⟨oc_Catalog__contains__, od_Catalog__contains__, .func (PySem.W.fnOf "__contains__" "Catalog.__contains__" (defArgs (inClass (top 18) 5)) (defBody (inClass (top 18) 5)) (defScope (inClass (top 18) 5)) .none kV_Catalog__contains__ dc_Catalog__contains__ pm_Catalog__contains__ an_Catalog__contains__ cd_Catalog__contains__ ct_Catalog__contains__), sl_Catalog__contains__⟩)
    (c_Catalog__contains__ : PySem.W.codeIn K cd_Catalog__contains__ "Catalog.__contains__" = true)
    (kp_Catalog__contains__ : PySem.W.keepIn K (.ref a_Catalog__contains__) = true)
    (f_Catalog__contains__ : PySem.W.isFn K (.ref a_Catalog__contains__) = true)
    (fi_Catalog__contains__ : PySem.W.fnIn K a_Catalog__contains__ = true)
    (y_Note__init__ : PySem.W.findIn K (.ref C2) "__init__" = some (some (.ref a_Note__init__)))
    (l_Note__init__ : K.lookup a_Note__init__ = some ⟨oc_Note__init__, od_Note__init__, .func (PySem.W.fnOf "__init__" "Note.__init__" (defArgs (inClass (top 22) 0)) (defBody (inClass (top 22) 0)) (defScope (inClass (top 22) 0)) .none kV_Note__init__ dc_Note__init__ pm_Note__init__ an_Note__init__ cd_Note__init__ ct_Note__init__), sl_Note__init__⟩)
    (c_Note__init__ : PySem.W.codeIn K cd_Note__init__ "Note.__init__" = true)
    (kp_Note__init__ : PySem.W.keepIn K (.ref a_Note__init__) = true)
    (f_Note__init__ : PySem.W.isFn K (.ref a_Note__init__) = true)
    (fi_Note__init__ : PySem.W.fnIn K a_Note__init__ = true)
    (y_Claim__init__ : PySem.W.findIn K (.ref C4) "__init__" = some (some (.ref a_Claim__init__)))
    (l_Claim__init__ : K.lookup a_Claim__init__ = some ⟨oc_Claim__init__, od_Claim__init__, .func (PySem.W.fnOf "__init__" "Claim.__init__" (defArgs (inClass (top 30) 0)) (defBody (inClass (top 30) 0)) (defScope (inClass (top 30) 0)) (.ref T_Claim__init__) kV_Claim__init__ dc_Claim__init__ pm_Claim__init__ an_Claim__init__ cd_Claim__init__ ct_Claim__init__), sl_Claim__init__⟩)
    (dl_Claim__init__ : K.lookup T_Claim__init__ = some ⟨oT_Claim__init__, dT_Claim__init__, .seq (List.toArray [.int 0 u0_Claim__init__, .int 1 u1_Claim__init__]) nT_Claim__init__, sT_Claim__init__⟩)
    (c_Claim__init__ : PySem.W.codeIn K cd_Claim__init__ "Claim.__init__" = true)
    (kp_Claim__init__ : PySem.W.keepIn K (.ref a_Claim__init__) = true)
    (f_Claim__init__ : PySem.W.isFn K (.ref a_Claim__init__) = true)
    (fi_Claim__init__ : PySem.W.fnIn K a_Claim__init__ = true)
    (y_Catalog__eq__ : PySem.W.findIn K (.ref C1) "__eq__" = some (some (.ref a_Catalog__eq__)))
    (l_Catalog__eq__ : K.lookup a_Catalog__eq__ = some ⟨oc_Catalog__eq__, od_Catalog__eq__, .func (PySem.W.fnOf "__eq__" "Catalog.__eq__" (defArgs (inClass (top 18) 7)) (defBody (inClass (top 18) 7)) (defScope (inClass (top 18) 7)) .none kV_Catalog__eq__ dc_Catalog__eq__ pm_Catalog__eq__ an_Catalog__eq__ cd_Catalog__eq__ ct_Catalog__eq__), sl_Catalog__eq__⟩)
    (c_Catalog__eq__ : PySem.W.codeIn K cd_Catalog__eq__ "Catalog.__eq__" = true)
    (kp_Catalog__eq__ : PySem.W.keepIn K (.ref a_Catalog__eq__) = true)
    (f_Catalog__eq__ : PySem.W.isFn K (.ref a_Catalog__eq__) = true)
    (fi_Catalog__eq__ : PySem.W.fnIn K a_Catalog__eq__ = true)
    (y_Office__init__ : PySem.W.findIn K (.ref C5) "__init__" = some (some (.ref a_Office__init__)))
    (l_Office__init__ : K.lookup a_Office__init__ = some ⟨oc_Office__init__, od_Office__init__, .func (PySem.W.fnOf "__init__" "Office.__init__" (defArgs (inClass (top 34) 0)) (defBody (inClass (top 34) 0)) (defScope (inClass (top 34) 0)) .none kV_Office__init__ dc_Office__init__ pm_Office__init__ an_Office__init__ cd_Office__init__ ct_Office__init__), sl_Office__init__⟩)
    (c_Office__init__ : PySem.W.codeIn K cd_Office__init__ "Office.__init__" = true)
    (kp_Office__init__ : PySem.W.keepIn K (.ref a_Office__init__) = true)
    (f_Office__init__ : PySem.W.isFn K (.ref a_Office__init__) = true)
    (fi_Office__init__ : PySem.W.fnIn K a_Office__init__ = true)
    (y_Note__getitem__ : PySem.W.findIn K (.ref C2) "__getitem__" = some (some (.ref a_Note__getitem__)))
    (l_Note__getitem__ : K.lookup a_Note__getitem__ = some ⟨oc_Note__getitem__, od_Note__getitem__, .func (PySem.W.fnOf "__getitem__" "Note.__getitem__" (defArgs (inClass (top 22) 5)) (defBody (inClass (top 22) 5)) (defScope (inClass (top 22) 5)) .none kV_Note__getitem__ dc_Note__getitem__ pm_Note__getitem__ an_Note__getitem__ cd_Note__getitem__ ct_Note__getitem__), sl_Note__getitem__⟩)
    (c_Note__getitem__ : PySem.W.codeIn K cd_Note__getitem__ "Note.__getitem__" = true)
    (kp_Note__getitem__ : PySem.W.keepIn K (.ref a_Note__getitem__) = true)
    (f_Note__getitem__ : PySem.W.isFn K (.ref a_Note__getitem__) = true)
    (fi_Note__getitem__ : PySem.W.fnIn K a_Note__getitem__ = true)
    (p1_Catalog_features : PySem.W.findIn K (.ref C1) "features" = some (some (.ref pr_Catalog_features)))
    (p2_Catalog_features : PySem.W.specialIn K (.ref pr_Catalog_features) "__get__" = some (some (.builtin "property.__get__")))
    (p3_Catalog_features : PySem.W.takesIn K (.ref pr_Catalog_features) = some true)
    (p4_Catalog_features : PySem.W.recIn K pr_Catalog_features "property" = some (.ref a_Catalog_features :: rest_Catalog_features))
    (l_Catalog_features : K.lookup a_Catalog_features = some ⟨oc_Catalog_features, od_Catalog_features, .func (PySem.W.fnOf "features" "Catalog.features" (defArgs (inClass (top 18) 1)) (defBody (inClass (top 18) 1)) (defScope (inClass (top 18) 1)) .none kV_Catalog_features dc_Catalog_features pm_Catalog_features an_Catalog_features cd_Catalog_features ct_Catalog_features), sl_Catalog_features⟩)
    (c_Catalog_features : PySem.W.codeIn K cd_Catalog_features "Catalog.features" = true)
    (kp_Catalog_features : PySem.W.keepIn K (.ref a_Catalog_features) = true)
    (p1_Claim_note : PySem.W.findIn K (.ref C4) "note" = some (some (.ref pr_Claim_note)))
    (p2_Claim_note : PySem.W.specialIn K (.ref pr_Claim_note) "__get__" = some (some (.builtin "property.__get__")))
    (p3_Claim_note : PySem.W.takesIn K (.ref pr_Claim_note) = some true)
    (p4_Claim_note : PySem.W.recIn K pr_Claim_note "property" = some (.ref a_Claim_note :: rest_Claim_note))
    (l_Claim_note : K.lookup a_Claim_note = some ⟨oc_Claim_note, od_Claim_note, .func (PySem.W.fnOf "note" "Claim.note" (defArgs (inClass (top 30) 1)) (defBody (inClass (top 30) 1)) (defScope (inClass (top 30) 1)) .none kV_Claim_note dc_Claim_note pm_Claim_note an_Claim_note cd_Claim_note ct_Claim_note), sl_Claim_note⟩)
    (c_Claim_note : PySem.W.codeIn K cd_Claim_note "Claim.note" = true)
    (kp_Claim_note : PySem.W.keepIn K (.ref a_Claim_note) = true)
    (p1_Thing_note : PySem.W.findIn K (.ref C3) "note" = some (some (.ref pr_Thing_note)))
    (p2_Thing_note : PySem.W.specialIn K (.ref pr_Thing_note) "__get__" = some (some (.builtin "property.__get__")))
    (p3_Thing_note : PySem.W.takesIn K (.ref pr_Thing_note) = some true)
    (p4_Thing_note : PySem.W.recIn K pr_Thing_note "property" = some (.ref a_Thing_note :: rest_Thing_note))
    (l_Thing_note : K.lookup a_Thing_note = some ⟨oc_Thing_note, od_Thing_note, .func (PySem.W.fnOf "note" "Thing.note" (defArgs (inClass (top 29) 1)) (defBody (inClass (top 29) 1)) (defScope (inClass (top 29) 1)) .none kV_Thing_note dc_Thing_note pm_Thing_note an_Thing_note cd_Thing_note ct_Thing_note), sl_Thing_note⟩)
    (c_Thing_note : PySem.W.codeIn K cd_Thing_note "Thing.note" = true)
    (kp_Thing_note : PySem.W.keepIn K (.ref a_Thing_note) = true)
    (p1_Note_catalog : PySem.W.findIn K (.ref C2) "catalog" = some (some (.ref pr_Note_catalog)))
    (p2_Note_catalog : PySem.W.specialIn K (.ref pr_Note_catalog) "__get__" = some (some (.builtin "property.__get__")))
    (p3_Note_catalog : PySem.W.takesIn K (.ref pr_Note_catalog) = some true)
    (p4_Note_catalog : PySem.W.recIn K pr_Note_catalog "property" = some (.ref a_Note_catalog :: rest_Note_catalog))
    (l_Note_catalog : K.lookup a_Note_catalog = some ⟨oc_Note_catalog, od_Note_catalog, .func (PySem.W.fnOf "catalog" "Note.catalog" (defArgs (inClass (top 22) 1)) (defBody (inClass (top 22) 1)) (defScope (inClass (top 22) 1)) .none kV_Note_catalog dc_Note_catalog pm_Note_catalog an_Note_catalog cd_Note_catalog ct_Note_catalog), sl_Note_catalog⟩)
    (c_Note_catalog : PySem.W.codeIn K cd_Note_catalog "Note.catalog" = true)
    (kp_Note_catalog : PySem.W.keepIn K (.ref a_Note_catalog) = true)
    (p1_Office_claims : PySem.W.findIn K (.ref C5) "claims" = some (some (.ref pr_Office_claims)))
    (p2_Office_claims : PySem.W.specialIn K (.ref pr_Office_claims) "__get__" = some (some (.builtin "property.__get__")))
    (p3_Office_claims : PySem.W.takesIn K (.ref pr_Office_claims) = some true)
    (p4_Office_claims : PySem.W.recIn K pr_Office_claims "property" = some (.ref a_Office_claims :: rest_Office_claims))
    (l_Office_claims : K.lookup a_Office_claims = some ⟨oc_Office_claims, od_Office_claims, .func (PySem.W.fnOf "claims" "Office.claims" (defArgs (inClass (top 34) 3)) (defBody (inClass (top 34) 3)) (defScope (inClass (top 34) 3)) .none kV_Office_claims dc_Office_claims pm_Office_claims an_Office_claims cd_Office_claims ct_Office_claims), sl_Office_claims⟩)
    (c_Office_claims : PySem.W.codeIn K cd_Office_claims "Office.claims" = true)
    (kp_Office_claims : PySem.W.keepIn K (.ref a_Office_claims) = true)
    (p1_Office_things : PySem.W.findIn K (.ref C5) "things" = some (some (.ref pr_Office_things)))
    (p2_Office_things : PySem.W.specialIn K (.ref pr_Office_things) "__get__" = some (some (.builtin "property.__get__")))
    (p3_Office_things : PySem.W.takesIn K (.ref pr_Office_things) = some true)
    (p4_Office_things : PySem.W.recIn K pr_Office_things "property" = some (.ref a_Office_things :: rest_Office_things))
    (l_Office_things : K.lookup a_Office_things = some ⟨oc_Office_things, od_Office_things, .func (PySem.W.fnOf "things" "Office.things" (defArgs (inClass (top 34) 2)) (defBody (inClass (top 34) 2)) (defScope (inClass (top 34) 2)) .none kV_Office_things dc_Office_things pm_Office_things an_Office_things cd_Office_things ct_Office_things), sl_Office_things⟩)
    (c_Office_things : PySem.W.codeIn K cd_Office_things "Office.things" = true)
    (kp_Office_things : PySem.W.keepIn K (.ref a_Office_things) = true)
    (p1_Claim_day : PySem.W.findIn K (.ref C4) "day" = some (some (.ref pr_Claim_day)))
    (p2_Claim_day : PySem.W.specialIn K (.ref pr_Claim_day) "__get__" = some (some (.builtin "property.__get__")))
    (p3_Claim_day : PySem.W.takesIn K (.ref pr_Claim_day) = some true)
    (p4_Claim_day : PySem.W.recIn K pr_Claim_day "property" = some (.ref a_Claim_day :: rest_Claim_day))
    (l_Claim_day : K.lookup a_Claim_day = some ⟨oc_Claim_day, od_Claim_day, .func (PySem.W.fnOf "day" "Claim.day" (defArgs (inClass (top 30) 2)) (defBody (inClass (top 30) 2)) (defScope (inClass (top 30) 2)) .none kV_Claim_day dc_Claim_day pm_Claim_day an_Claim_day cd_Claim_day ct_Claim_day), sl_Claim_day⟩)
    (c_Claim_day : PySem.W.codeIn K cd_Claim_day "Claim.day" = true)
    (kp_Claim_day : PySem.W.keepIn K (.ref a_Claim_day) = true)
    (p1_Thing_day : PySem.W.findIn K (.ref C3) "day" = some (some (.ref pr_Thing_day)))
    (p2_Thing_day : PySem.W.specialIn K (.ref pr_Thing_day) "__get__" = some (some (.builtin "property.__get__")))
    (p3_Thing_day : PySem.W.takesIn K (.ref pr_Thing_day) = some true)
    (p4_Thing_day : PySem.W.recIn K pr_Thing_day "property" = some (.ref a_Thing_day :: rest_Thing_day))
    (l_Thing_day : K.lookup a_Thing_day = some ⟨oc_Thing_day, od_Thing_day, .func (PySem.W.fnOf "day" "Thing.day" (defArgs (inClass (top 29) 2)) (defBody (inClass (top 29) 2)) (defScope (inClass (top 29) 2)) .none kV_Thing_day dc_Thing_day pm_Thing_day an_Thing_day cd_Thing_day ct_Thing_day), sl_Thing_day⟩)
    (c_Thing_day : PySem.W.codeIn K cd_Thing_day "Thing.day" = true)
    (kp_Thing_day : PySem.W.keepIn K (.ref a_Thing_day) = true)
    (p1_Office_catalog : PySem.W.findIn K (.ref C5) "catalog" = some (some (.ref pr_Office_catalog)))
    (p2_Office_catalog : PySem.W.specialIn K (.ref pr_Office_catalog) "__get__" = some (some (.builtin "property.__get__")))
    (p3_Office_catalog : PySem.W.takesIn K (.ref pr_Office_catalog) = some true)
    (p4_Office_catalog : PySem.W.recIn K pr_Office_catalog "property" = some (.ref a_Office_catalog :: rest_Office_catalog))
    (l_Office_catalog : K.lookup a_Office_catalog = some ⟨oc_Office_catalog, od_Office_catalog, .func (PySem.W.fnOf "catalog" "Office.catalog" (defArgs (inClass (top 34) 1)) (defBody (inClass (top 34) 1)) (defScope (inClass (top 34) 1)) .none kV_Office_catalog dc_Office_catalog pm_Office_catalog an_Office_catalog cd_Office_catalog ct_Office_catalog), sl_Office_catalog⟩)
    (c_Office_catalog : PySem.W.codeIn K cd_Office_catalog "Office.catalog" = true)
    (kp_Office_catalog : PySem.W.keepIn K (.ref a_Office_catalog) = true)
    (p1_Catalog_names : PySem.W.findIn K (.ref C1) "names" = some (some (.ref pr_Catalog_names)))
    (p2_Catalog_names : PySem.W.specialIn K (.ref pr_Catalog_names) "__get__" = some (some (.builtin "property.__get__")))
    (p3_Catalog_names : PySem.W.takesIn K (.ref pr_Catalog_names) = some true)
    (p4_Catalog_names : PySem.W.recIn K pr_Catalog_names "property" = some (.ref a_Catalog_names :: rest_Catalog_names))
    (l_Catalog_names : K.lookup a_Catalog_names = some ⟨oc_Catalog_names, od_Catalog_names, .func (PySem.W.fnOf "names" "Catalog.names" (defArgs (inClass (top 18) 2)) (defBody (inClass (top 18) 2)) (defScope (inClass (top 18) 2)) .none kV_Catalog_names dc_Catalog_names pm_Catalog_names an_Catalog_names cd_Catalog_names ct_Catalog_names), sl_Catalog_names⟩)
    (c_Catalog_names : PySem.W.codeIn K cd_Catalog_names "Catalog.names" = true)
    (kp_Catalog_names : PySem.W.keepIn K (.ref a_Catalog_names) = true)
    (p1_Claim_slips : PySem.W.findIn K (.ref C4) "slips" = some (some (.ref pr_Claim_slips)))
    (p2_Claim_slips : PySem.W.specialIn K (.ref pr_Claim_slips) "__get__" = some (some (.builtin "property.__get__")))
    (p3_Claim_slips : PySem.W.takesIn K (.ref pr_Claim_slips) = some true)
    (p4_Claim_slips : PySem.W.recIn K pr_Claim_slips "property" = some (.ref a_Claim_slips :: rest_Claim_slips))
    (l_Claim_slips : K.lookup a_Claim_slips = some ⟨oc_Claim_slips, od_Claim_slips, .func (PySem.W.fnOf "slips" "Claim.slips" (defArgs (inClass (top 30) 3)) (defBody (inClass (top 30) 3)) (defScope (inClass (top 30) 3)) .none kV_Claim_slips dc_Claim_slips pm_Claim_slips an_Claim_slips cd_Claim_slips ct_Claim_slips), sl_Claim_slips⟩)
    (c_Claim_slips : PySem.W.codeIn K cd_Claim_slips "Claim.slips" = true)
    (kp_Claim_slips : PySem.W.keepIn K (.ref a_Claim_slips) = true)
    (pg_Catalog : PySem.W.plainGet K C1 Str.empty = true)
    (hd_Catalog : PySem.W.hasDictIn K C1 = true)
    (po_Catalog : PySem.W.plainOver K C1 = true)
    (sa_Catalog : PySem.W.findIn K (.ref C1) "__setattr__" = some (some (.builtin "object.__setattr__")))
    (mk_Catalog : PySem.W.makesIn K C1 = true)
    (kc_Catalog : PySem.W.keepIn K (.ref C1) = true)
    (n0_Catalog : PySem.W.findIn K (.ref C1) "_features" = some none)
    (n1_Catalog : PySem.W.findIn K (.ref C1) "_values" = some none)
    (ne_Catalog : PySem.W.findIn K (.ref C1) "__ne__" = some (some (.builtin "object.__ne__")))
    (mo_Catalog : PySem.W.mroIn K C1 (.type "object") = some true)
    (ha_Catalog : PySem.W.findIn K (.ref C1) "__class__" = some (some (.builtin "object.__class__")))
    (ic_Catalog : PySem.W.isClsIn K C1 = true)
    (ty_Catalog : PySem.W.typeIn K (.ref C1) = some (.type "type"))
    (pg_Note : PySem.W.plainGet K C2 Str.empty = true)
    (hd_Note : PySem.W.hasDictIn K C2 = true)
    (po_Note : PySem.W.plainOver K C2 = true)
    (sa_Note : PySem.W.findIn K (.ref C2) "__setattr__" = some (some (.builtin "object.__setattr__")))
    (mk_Note : PySem.W.makesIn K C2 = true)
    (kc_Note : PySem.W.keepIn K (.ref C2) = true)
    (n0_Note : PySem.W.findIn K (.ref C2) "_catalog" = some none)
    (n1_Note : PySem.W.findIn K (.ref C2) "_values" = some none)
    (pg_Thing : PySem.W.plainGet K C3 Str.empty = true)
    (hd_Thing : PySem.W.hasDictIn K C3 = true)
    (po_Thing : PySem.W.plainOver K C3 = true)
    (sa_Thing : PySem.W.findIn K (.ref C3) "__setattr__" = some (some (.builtin "object.__setattr__")))
    (mk_Thing : PySem.W.makesIn K C3 = true)
    (kc_Thing : PySem.W.keepIn K (.ref C3) = true)
    (n0_Thing : PySem.W.findIn K (.ref C3) "_note" = some none)
    (n1_Thing : PySem.W.findIn K (.ref C3) "_day" = some none)
    (pg_Claim : PySem.W.plainGet K C4 Str.empty = true)
    (hd_Claim : PySem.W.hasDictIn K C4 = true)
    (po_Claim : PySem.W.plainOver K C4 = true)
    (sa_Claim : PySem.W.findIn K (.ref C4) "__setattr__" = some (some (.builtin "object.__setattr__")))
    (mk_Claim : PySem.W.makesIn K C4 = true)
    (kc_Claim : PySem.W.keepIn K (.ref C4) = true)
    (n0_Claim : PySem.W.findIn K (.ref C4) "_note" = some none)
    (n1_Claim : PySem.W.findIn K (.ref C4) "_day" = some none)
    (n2_Claim : PySem.W.findIn K (.ref C4) "_slips" = some none)
    (n3_Claim : PySem.W.findIn K (.ref C4) "_worth" = some none)
    (pg_Office : PySem.W.plainGet K C5 Str.empty = true)
    (hd_Office : PySem.W.hasDictIn K C5 = true)
    (po_Office : PySem.W.plainOver K C5 = true)
    (sa_Office : PySem.W.findIn K (.ref C5) "__setattr__" = some (some (.builtin "object.__setattr__")))
    (mk_Office : PySem.W.makesIn K C5 = true)
    (kc_Office : PySem.W.keepIn K (.ref C5) = true)
    (n0_Office : PySem.W.findIn K (.ref C5) "_catalog" = some none)
    (n1_Office : PySem.W.findIn K (.ref C5) "_things" = some none)
    (n2_Office : PySem.W.findIn K (.ref C5) "_claims" = some none)
    (hn : PySem.W.specialIn K (.builtin "object.__class__") "__get__" = some (some (.builtin "getset_descriptor.__get__")))
    (htk : PySem.W.takesIn K (.builtin "object.__class__") = some true)
    (y_InvalidCatalog__init__ : PySem.W.findIn K (.ref C6) "__init__" = some (some (.ref a_InvalidCatalog__init__)))
    (l_InvalidCatalog__init__ : K.lookup a_InvalidCatalog__init__ = some ⟨oc_InvalidCatalog__init__, od_InvalidCatalog__init__, .func (PySem.W.fnOf "__init__" "InvalidCatalog.__init__" (defArgs (inClass (top 3) 0)) (defBody (inClass (top 3) 0)) (defScope (inClass (top 3) 0)) .none kV_InvalidCatalog__init__ dc_InvalidCatalog__init__ pm_InvalidCatalog__init__ an_InvalidCatalog__init__ cd_InvalidCatalog__init__ ct_InvalidCatalog__init__), sl_InvalidCatalog__init__⟩)
    (c_InvalidCatalog__init__ : PySem.W.codeIn K cd_InvalidCatalog__init__ "InvalidCatalog.__init__" = true)
    (kp_InvalidCatalog__init__ : PySem.W.keepIn K (.ref a_InvalidCatalog__init__) = true)
    (f_InvalidCatalog__init__ : PySem.W.typeIn K (.ref a_InvalidCatalog__init__) = some (.type "function"))
    (xc_InvalidCatalog : K.lookup C6 = some (excClassObj nm_InvalidCatalog q_InvalidCatalog C6 N_InvalidCatalog bs_InvalidCatalog bm_InvalidCatalog true sn_InvalidCatalog sub_InvalidCatalog ab_InvalidCatalog col_InvalidCatalog dd_InvalidCatalog k0_InvalidCatalog k1_InvalidCatalog k2_InvalidCatalog k3_InvalidCatalog k5_InvalidCatalog "ValueError.__new__"))
    (xr_InvalidCatalog : PySem.HandSPX.refsVE bm_InvalidCatalog = true)
    (xs_InvalidCatalog : PySem.W.findIn K (.ref C6) "__setattr__" = some (some (.builtin "object.__setattr__")))
    (xe_InvalidCatalog : PySem.W.subIn K (.ref C6) (.type "BaseException") = some true)
    (xt_InvalidCatalog : PySem.W.typeIn K (.ref C6) = some (.type "type"))
    (xk_InvalidCatalog : PySem.W.keepIn K (.ref C6) = true)
    (xi_InvalidCatalog_index : PySem.W.findIn K (.ref C6) "index" = some none)
    (y_InvalidEntry__init__ : PySem.W.findIn K (.ref C7) "__init__" = some (some (.ref a_InvalidEntry__init__)))
    (l_InvalidEntry__init__ : K.lookup a_InvalidEntry__init__ = some ⟨oc_InvalidEntry__init__, od_InvalidEntry__init__, .func (PySem.W.fnOf "__init__" "InvalidEntry.__init__" (defArgs (inClass (top 7) 0)) (defBody (inClass (top 7) 0)) (defScope (inClass (top 7) 0)) .none kV_InvalidEntry__init__ dc_InvalidEntry__init__ pm_InvalidEntry__init__ an_InvalidEntry__init__ cd_InvalidEntry__init__ ct_InvalidEntry__init__), sl_InvalidEntry__init__⟩)
    (c_InvalidEntry__init__ : PySem.W.codeIn K cd_InvalidEntry__init__ "InvalidEntry.__init__" = true)
    (kp_InvalidEntry__init__ : PySem.W.keepIn K (.ref a_InvalidEntry__init__) = true)
    (f_InvalidEntry__init__ : PySem.W.typeIn K (.ref a_InvalidEntry__init__) = some (.type "function"))
    (xc_InvalidEntry : K.lookup C7 = some (excClassObj nm_InvalidEntry q_InvalidEntry C7 N_InvalidEntry bs_InvalidEntry bm_InvalidEntry true sn_InvalidEntry sub_InvalidEntry ab_InvalidEntry col_InvalidEntry dd_InvalidEntry k0_InvalidEntry k1_InvalidEntry k2_InvalidEntry k3_InvalidEntry k5_InvalidEntry "ValueError.__new__"))
    (xr_InvalidEntry : PySem.HandSPX.refsVE bm_InvalidEntry = true)
    (xs_InvalidEntry : PySem.W.findIn K (.ref C7) "__setattr__" = some (some (.builtin "object.__setattr__")))
    (xe_InvalidEntry : PySem.W.subIn K (.ref C7) (.type "BaseException") = some true)
    (xt_InvalidEntry : PySem.W.typeIn K (.ref C7) = some (.type "type"))
    (xk_InvalidEntry : PySem.W.keepIn K (.ref C7) = true)
    (xi_InvalidEntry_part : PySem.W.findIn K (.ref C7) "part" = some none)
    (y_InvalidNote__init__ : PySem.W.findIn K (.ref C8) "__init__" = some (some (.ref a_InvalidNote__init__)))
    (l_InvalidNote__init__ : K.lookup a_InvalidNote__init__ = some ⟨oc_InvalidNote__init__, od_InvalidNote__init__, .func (PySem.W.fnOf "__init__" "InvalidNote.__init__" (defArgs (inClass (top 5) 0)) (defBody (inClass (top 5) 0)) (defScope (inClass (top 5) 0)) .none kV_InvalidNote__init__ dc_InvalidNote__init__ pm_InvalidNote__init__ an_InvalidNote__init__ cd_InvalidNote__init__ ct_InvalidNote__init__), sl_InvalidNote__init__⟩)
    (c_InvalidNote__init__ : PySem.W.codeIn K cd_InvalidNote__init__ "InvalidNote.__init__" = true)
    (kp_InvalidNote__init__ : PySem.W.keepIn K (.ref a_InvalidNote__init__) = true)
    (f_InvalidNote__init__ : PySem.W.typeIn K (.ref a_InvalidNote__init__) = some (.type "function"))
    (xc_InvalidNote : K.lookup C8 = some (excClassObj nm_InvalidNote q_InvalidNote C8 N_InvalidNote bs_InvalidNote bm_InvalidNote true sn_InvalidNote sub_InvalidNote ab_InvalidNote col_InvalidNote dd_InvalidNote k0_InvalidNote k1_InvalidNote k2_InvalidNote k3_InvalidNote k5_InvalidNote "ValueError.__new__"))
    (xr_InvalidNote : PySem.HandSPX.refsVE bm_InvalidNote = true)
    (xs_InvalidNote : PySem.W.findIn K (.ref C8) "__setattr__" = some (some (.builtin "object.__setattr__")))
    (xe_InvalidNote : PySem.W.subIn K (.ref C8) (.type "BaseException") = some true)
    (xt_InvalidNote : PySem.W.typeIn K (.ref C8) = some (.type "type"))
    (xk_InvalidNote : PySem.W.keepIn K (.ref C8) = true)
    (xi_InvalidNote_feature : PySem.W.findIn K (.ref C8) "feature" = some none)
    (y_InvalidOffice__init__ : PySem.W.findIn K (.ref C9) "__init__" = some (some (.ref a_InvalidOffice__init__)))
    (l_InvalidOffice__init__ : K.lookup a_InvalidOffice__init__ = some ⟨oc_InvalidOffice__init__, od_InvalidOffice__init__, .func (PySem.W.fnOf "__init__" "InvalidOffice.__init__" (defArgs (inClass (top 8) 0)) (defBody (inClass (top 8) 0)) (defScope (inClass (top 8) 0)) .none kV_InvalidOffice__init__ dc_InvalidOffice__init__ pm_InvalidOffice__init__ an_InvalidOffice__init__ cd_InvalidOffice__init__ ct_InvalidOffice__init__), sl_InvalidOffice__init__⟩)
    (c_InvalidOffice__init__ : PySem.W.codeIn K cd_InvalidOffice__init__ "InvalidOffice.__init__" = true)
    (kp_InvalidOffice__init__ : PySem.W.keepIn K (.ref a_InvalidOffice__init__) = true)
    (f_InvalidOffice__init__ : PySem.W.typeIn K (.ref a_InvalidOffice__init__) = some (.type "function"))
    (xc_InvalidOffice : K.lookup C9 = some (excClassObj nm_InvalidOffice q_InvalidOffice C9 N_InvalidOffice bs_InvalidOffice bm_InvalidOffice true sn_InvalidOffice sub_InvalidOffice ab_InvalidOffice col_InvalidOffice dd_InvalidOffice k0_InvalidOffice k1_InvalidOffice k2_InvalidOffice k3_InvalidOffice k5_InvalidOffice "ValueError.__new__"))
    (xr_InvalidOffice : PySem.HandSPX.refsVE bm_InvalidOffice = true)
    (xs_InvalidOffice : PySem.W.findIn K (.ref C9) "__setattr__" = some (some (.builtin "object.__setattr__")))
    (xe_InvalidOffice : PySem.W.subIn K (.ref C9) (.type "BaseException") = some true)
    (xt_InvalidOffice : PySem.W.typeIn K (.ref C9) = some (.type "type"))
    (xk_InvalidOffice : PySem.W.keepIn K (.ref C9) = true)
    (xi_InvalidOffice_part : PySem.W.findIn K (.ref C9) "part" = some none)
    (xi_InvalidOffice_label : PySem.W.findIn K (.ref C9) "label" = some none)
    (ux_UnknownLabel : PySem.W.excIn K C10 [.type "ValueError", .type "Exception", .type "BaseException", .type "object"] "ValueError.__new__" = true)
    (uk_UnknownLabel : PySem.W.keepIn K (.ref C10) = true)
    (xe_UnknownLabel : PySem.W.subIn K (.ref C10) (.type "BaseException") = some true)
    (xt_UnknownLabel : PySem.W.typeIn K (.ref C10) = some (.type "type"))
    (ux_UnknownFeature : PySem.W.excIn K C11 [.type "ValueError", .type "Exception", .type "BaseException", .type "object"] "ValueError.__new__" = true)
    (uk_UnknownFeature : PySem.W.keepIn K (.ref C11) = true)
    (xe_UnknownFeature : PySem.W.subIn K (.ref C11) (.type "BaseException") = some true)
    (xt_UnknownFeature : PySem.W.typeIn K (.ref C11) = some (.type "type"))
    (z_all : PySem.W.nsIn K mainGlobals "all" = some none)
    (z_any : PySem.W.nsIn K mainGlobals "any" = some none)
    (z_bool : PySem.W.nsIn K mainGlobals "bool" = some none)
    (z_dict : PySem.W.nsIn K mainGlobals "dict" = some none)
    (z_enumerate : PySem.W.nsIn K mainGlobals "enumerate" = some none)
    (z_int : PySem.W.nsIn K mainGlobals "int" = some none)
    (z_isinstance : PySem.W.nsIn K mainGlobals "isinstance" = some none)
    (z_len : PySem.W.nsIn K mainGlobals "len" = some none)
    (z_list : PySem.W.nsIn K mainGlobals "list" = some none)
    (z_max : PySem.W.nsIn K mainGlobals "max" = some none)
    (z_range : PySem.W.nsIn K mainGlobals "range" = some none)
    (z_sorted : PySem.W.nsIn K mainGlobals "sorted" = some none)
    (z_str : PySem.W.nsIn K mainGlobals "str" = some none)
    (z_tuple : PySem.W.nsIn K mainGlobals "tuple" = some none)
    (z_zip : PySem.W.nsIn K mainGlobals "zip" = some none)
    (v_MOST_FEATURES : PySem.W.nsIn K mainGlobals "MOST_FEATURES" = some (some (.int 6 t_MOST_FEATURES)))
    (v_FEWEST_VALUES : PySem.W.nsIn K mainGlobals "FEWEST_VALUES" = some (some (.int 2 t_FEWEST_VALUES)))
    (v_MOST_VALUES : PySem.W.nsIn K mainGlobals "MOST_VALUES" = some (some (.int 8 t_MOST_VALUES)))
    (v_MOST_LETTERS : PySem.W.nsIn K mainGlobals "MOST_LETTERS" = some (some (.int 8 t_MOST_LETTERS)))
    (v_LAST_DAY : PySem.W.nsIn K mainGlobals "LAST_DAY" = some (some (.int 1000000000000000000 t_LAST_DAY)))
    (v_MOST_SLIPS : PySem.W.nsIn K mainGlobals "MOST_SLIPS" = some (some (.int 2 t_MOST_SLIPS)))
    (v_MOST_WORTH : PySem.W.nsIn K mainGlobals "MOST_WORTH" = some (some (.int 1000000000 t_MOST_WORTH)))
    (v_MOST_ENTRIES : PySem.W.nsIn K mainGlobals "MOST_ENTRIES" = some (some (.int 8 t_MOST_ENTRIES)))
    : ∃ fd : FuncData, (∀ (s : Shared) (v : Value), BindsTo s fd ⟨[v], []⟩ [("_law_script", v)]) ∧ ∀ base : Heap, K.In base → base.Ns mainGlobals mg → FnOk l.prog w K mg base (L2.CX l.prog w) 10 fa fd ["_law_script"] (spLaw K) := by
  have e := hfa.symm.trans (PySem.W.mg_of X G y_law)
  cases e
  obtain ⟨ca, e0, e1, e2, e3, e4, e5, e6, e7, e8, e9, e10⟩ := ca_ex C1 C2 C3 C4 C5 C6 C7 C8 C9 C10 C11
  subst e0 e1 e2 e3 e4 e5 e6 e7 e8 e9 e10
  refine ⟨PySem.W.fnOf "law" "law" (defArgs (top 55)) (defBody (top 55)) (defScope (top 55)) .none kV_law dc_law pm_law an_law cd_law ct_law, fun s v => .of_eq rfl, fun base _ _ => ?_⟩
  let B : Bs := ⟨K, ca⟩
  have m_all := PySem.W.mg_none_of X G z_all
  have m_any := PySem.W.mg_none_of X G z_any
  have m_bool := PySem.W.mg_none_of X G z_bool
  have m_dict := PySem.W.mg_none_of X G z_dict
  have m_enumerate := PySem.W.mg_none_of X G z_enumerate
  have m_int := PySem.W.mg_none_of X G z_int
  have m_isinstance := PySem.W.mg_none_of X G z_isinstance
  have m_len := PySem.W.mg_none_of X G z_len
  have m_list := PySem.W.mg_none_of X G z_list
  have m_max := PySem.W.mg_none_of X G z_max
  have m_range := PySem.W.mg_none_of X G z_range
  have m_sorted := PySem.W.mg_none_of X G z_sorted
  have m_str := PySem.W.mg_none_of X G z_str
  have m_tuple := PySem.W.mg_none_of X G z_tuple
  have m_zip := PySem.W.mg_none_of X G z_zip
  have m_MOST_FEATURES := PySem.W.mg_of X G v_MOST_FEATURES
  have m_FEWEST_VALUES := PySem.W.mg_of X G v_FEWEST_VALUES
  have m_MOST_VALUES := PySem.W.mg_of X G v_MOST_VALUES
  have m_MOST_LETTERS := PySem.W.mg_of X G v_MOST_LETTERS
  have m_LAST_DAY := PySem.W.mg_of X G v_LAST_DAY
  have m_MOST_SLIPS := PySem.W.mg_of X G v_MOST_SLIPS
  have m_MOST_WORTH := PySem.W.mg_of X G v_MOST_WORTH
  have m_MOST_ENTRIES := PySem.W.mg_of X G v_MOST_ENTRIES
  have m__law_next := PySem.W.mg_of X G y__law_next
  have m__law_features := PySem.W.mg_of X G y__law_features
  have m__law_some := PySem.W.mg_of X G y__law_some
  have m__law_sets := PySem.W.mg_of X G y__law_sets
  have m__law_drawn := PySem.W.mg_of X G y__law_drawn
  have m_is_word := PySem.W.mg_of X G y_is_word
  have m_ascends := PySem.W.mg_of X G y_ascends
  have m_is_feature := PySem.W.mg_of X G y_is_feature
  have m_in_range := PySem.W.mg_of X G y_in_range
  have m_is_choice := PySem.W.mg_of X G y_is_choice
  have m__law_note := PySem.W.mg_of X G y__law_note
  have m_check_entries := PySem.W.mg_of X G y_check_entries
  have m_in_order := PySem.W.mg_of X G y_in_order
  have m__law_office := PySem.W.mg_of X G y__law_office
  have m__law_apart := PySem.W.mg_of X G y__law_apart
  have m__law_can := PySem.W.mg_of X G y__law_can
  have m__law_alike := PySem.W.mg_of X G y__law_alike
  have m_claim_of := PySem.W.mg_of X G y_claim_of
  have m_thing_of := PySem.W.mg_of X G y_thing_of
  have m_common_values := PySem.W.mg_of X G y_common_values
  have m_misfits := PySem.W.mg_of X G y_misfits
  have m_fits := PySem.W.mg_of X G y_fits
  have m_candidates := PySem.W.mg_of X G y_candidates
  have m_rivals := PySem.W.mg_of X G y_rivals
  have m_lonely := PySem.W.mg_of X G y_lonely
  have m__law_mix := PySem.W.mg_of X G y__law_mix
  have m_Catalog := PySem.W.mg_of X G y_Catalog
  have m_Note := PySem.W.mg_of X G y_Note
  have m_Thing := PySem.W.mg_of X G y_Thing
  have m_Claim := PySem.W.mg_of X G y_Claim
  have m_Office := PySem.W.mg_of X G y_Office
  have m_InvalidCatalog := PySem.W.mg_of X G y_InvalidCatalog
  have m_InvalidEntry := PySem.W.mg_of X G y_InvalidEntry
  have m_InvalidNote := PySem.W.mg_of X G y_InvalidNote
  have m_InvalidOffice := PySem.W.mg_of X G y_InvalidOffice
  have m_UnknownLabel := PySem.W.mg_of X G y_UnknownLabel
  have m_UnknownFeature := PySem.W.mg_of X G y_UnknownFeature
  have N__law_next : Fun B.K "_law_next" "_law_next" (top 45) a__law_next _ := fun_mk (st := (top 45)) l__law_next c__law_next kp__law_next
  have b__law_next := N__law_next.binds (ps := ["_law_h", "_law_limit"]) fun _ _ _ _ _ _ us hl => match us, hl with | [_, _], _ => rfl
  have k__law_next := kp__law_next
  have N__law_features : Fun B.K "_law_features" "_law_features" (top 47) a__law_features _ := fun_mk (st := (top 47)) l__law_features c__law_features kp__law_features
  have b__law_features := N__law_features.binds (ps := ["_law_h", "_law_most"]) fun _ _ _ _ _ _ us hl => match us, hl with | [_, _], _ => rfl
  have k__law_features := kp__law_features
  have N__law_some : Fun B.K "_law_some" "_law_some" (top 48) a__law_some _ := fun_mk (st := (top 48)) l__law_some c__law_some kp__law_some
  have b__law_some := N__law_some.binds (ps := ["_law_h", "_law_words"]) fun _ _ _ _ _ _ us hl => match us, hl with | [_, _], _ => rfl
  have k__law_some := kp__law_some
  have N__law_sets : Fun B.K "_law_sets" "_law_sets" (top 49) a__law_sets _ := fun_mk (st := (top 49)) l__law_sets c__law_sets kp__law_sets
  have b__law_sets := N__law_sets.binds (ps := ["_law_h", "_law_features_here"]) fun _ _ _ _ _ _ us hl => match us, hl with | [_, _], _ => rfl
  have k__law_sets := kp__law_sets
  have N__law_drawn : Fun B.K "_law_drawn" "_law_drawn" (top 50) a__law_drawn _ := fun_mk (st := (top 50)) l__law_drawn c__law_drawn kp__law_drawn
  have b__law_drawn := N__law_drawn.binds (ps := ["_law_h", "_law_things", "_law_claims"]) fun _ _ _ _ _ _ us hl => match us, hl with | [_, _, _], _ => rfl
  have k__law_drawn := kp__law_drawn
  have N_is_word : Fun B.K "is_word" "is_word" (top 15) a_is_word _ := fun_mk (st := (top 15)) l_is_word c_is_word kp_is_word
  have b_is_word := N_is_word.binds (ps := ["text"]) fun _ _ _ _ _ _ us hl => match us, hl with | [_], _ => rfl
  have k_is_word := kp_is_word
  have N_ascends : Fun B.K "ascends" "ascends" (top 16) a_ascends _ := fun_mk (st := (top 16)) l_ascends c_ascends kp_ascends
  have b_ascends := N_ascends.binds (ps := ["words"]) fun _ _ _ _ _ _ us hl => match us, hl with | [_], _ => rfl
  have k_ascends := kp_ascends
  have N_is_feature : Fun B.K "is_feature" "is_feature" (top 17) a_is_feature _ := fun_mk (st := (top 17)) l_is_feature c_is_feature kp_is_feature
  have b_is_feature := N_is_feature.binds (ps := ["name", "values"]) fun _ _ _ _ _ _ us hl => match us, hl with | [_, _], _ => rfl
  have k_is_feature := kp_is_feature
  have N_in_range : Fun B.K "in_range" "in_range" (top 28) a_in_range _ := fun_mk (st := (top 28)) l_in_range c_in_range kp_in_range
  have b_in_range := N_in_range.binds (ps := ["number", "least", "most"]) fun _ _ _ _ _ _ us hl => match us, hl with | [_, _, _], _ => rfl
  have k_in_range := kp_in_range
  have N_is_choice : Fun B.K "is_choice" "is_choice" (top 20) a_is_choice _ := fun_mk (st := (top 20)) l_is_choice c_is_choice kp_is_choice
  have b_is_choice := N_is_choice.binds (ps := ["chosen", "values"]) fun _ _ _ _ _ _ us hl => match us, hl with | [_, _], _ => rfl
  have k_is_choice := kp_is_choice
  have N__law_note : Fun B.K "_law_note" "_law_note" (top 51) a__law_note _ := fun_mk (st := (top 51)) l__law_note c__law_note kp__law_note
  have b__law_note := N__law_note.binds (ps := ["_law_catalog", "_law_features_here", "_law_sets_here"]) fun _ _ _ _ _ _ us hl => match us, hl with | [_, _, _], _ => rfl
  have k__law_note := kp__law_note
  have N_check_entries : Fun B.K "check_entries" "check_entries" (top 31) a_check_entries _ := fun_mk (st := (top 31)) l_check_entries c_check_entries kp_check_entries
  have b_check_entries := N_check_entries.binds (ps := ["part", "catalog", "entries", "taken"]) fun _ _ _ _ _ _ us hl => match us, hl with | [_, _, _, _], _ => rfl
  have k_check_entries := kp_check_entries
  have N_in_order : Fun B.K "in_order" "in_order" (top 32) a_in_order _ := fun_mk (st := (top 32)) l_in_order c_in_order kp_in_order
  have b_in_order := N_in_order.binds (ps := ["entries"]) fun _ _ _ _ _ _ us hl => match us, hl with | [_], _ => rfl
  have k_in_order := kp_in_order
  have N__law_office : Fun B.K "_law_office" "_law_office" (top 52) a__law_office _ := fun_mk (st := (top 52)) l__law_office c__law_office kp__law_office
  have b__law_office := N__law_office.binds (ps := ["_law_drawn_here"]) fun _ _ _ _ _ _ us hl => match us, hl with | [_], _ => rfl
  have k__law_office := kp__law_office
  have N__law_apart : Fun B.K "_law_apart" "_law_apart" (top 53) a__law_apart _ := fun_mk (st := (top 53)) l__law_apart c__law_apart kp__law_apart
  have b__law_apart := N__law_apart.binds (ps := ["_law_drawn_here", "_law_claim", "_law_thing"]) fun _ _ _ _ _ _ us hl => match us, hl with | [_, _, _], _ => rfl
  have k__law_apart := kp__law_apart
  have N__law_can : Fun B.K "_law_can" "_law_can" (top 54) a__law_can _ := fun_mk (st := (top 54)) l__law_can c__law_can kp__law_can
  have b__law_can := N__law_can.binds (ps := ["_law_drawn_here", "_law_claim", "_law_thing"]) fun _ _ _ _ _ _ us hl => match us, hl with | [_, _, _], _ => rfl
  have k__law_can := kp__law_can
  have N__law_alike : Fun B.K "_law_alike" "_law_alike" (top 46) a__law_alike _ := fun_mk (st := (top 46)) l__law_alike c__law_alike kp__law_alike
  have b__law_alike := N__law_alike.binds (ps := ["_law_found", "_law_due"]) fun _ _ _ _ _ _ us hl => match us, hl with | [_, _], _ => rfl
  have k__law_alike := kp__law_alike
  have N_claim_of : Fun B.K "claim_of" "claim_of" (top 35) a_claim_of _ := fun_mk (st := (top 35)) l_claim_of c_claim_of kp_claim_of
  have b_claim_of := N_claim_of.binds (ps := ["office", "label"]) fun _ _ _ _ _ _ us hl => match us, hl with | [_, _], _ => rfl
  have k_claim_of := kp_claim_of
  have N_thing_of : Fun B.K "thing_of" "thing_of" (top 36) a_thing_of _ := fun_mk (st := (top 36)) l_thing_of c_thing_of kp_thing_of
  have b_thing_of := N_thing_of.binds (ps := ["office", "label"]) fun _ _ _ _ _ _ us hl => match us, hl with | [_, _], _ => rfl
  have k_thing_of := kp_thing_of
  have N_common_values : Fun B.K "common_values" "common_values" (top 21) a_common_values _ := fun_mk (st := (top 21)) l_common_values c_common_values kp_common_values
  have b_common_values := N_common_values.binds (ps := ["one", "other", "name"]) fun _ _ _ _ _ _ us hl => match us, hl with | [_, _, _], _ => rfl
  have k_common_values := kp_common_values
  have N_misfits : Fun B.K "misfits" "misfits" (top 38) a_misfits _ := fun_mk (st := (top 38)) l_misfits c_misfits kp_misfits
  have b_misfits := N_misfits.binds (ps := ["office", "claim", "thing"]) fun _ _ _ _ _ _ us hl => match us, hl with | [_, _, _], _ => rfl
  have k_misfits := kp_misfits
  have N_fits : Fun B.K "fits" "fits" (top 39) a_fits _ := fun_mk (st := (top 39)) l_fits c_fits kp_fits
  have b_fits := N_fits.binds (ps := ["office", "claim", "thing"]) fun _ _ _ _ _ _ us hl => match us, hl with | [_, _, _], _ => rfl
  have k_fits := kp_fits
  have N_candidates : Fun B.K "candidates" "candidates" (top 40) a_candidates _ := fun_mk (st := (top 40)) l_candidates c_candidates kp_candidates
  have b_candidates := N_candidates.binds (ps := ["office", "label"]) fun _ _ _ _ _ _ us hl => match us, hl with | [_, _], _ => rfl
  have k_candidates := kp_candidates
  have N_rivals : Fun B.K "rivals" "rivals" (top 42) a_rivals _ := fun_mk (st := (top 42)) l_rivals c_rivals kp_rivals
  have b_rivals := N_rivals.binds (ps := ["office", "claim"]) fun _ _ _ _ _ _ us hl => match us, hl with | [_, _], _ => rfl
  have k_rivals := kp_rivals
  have N_lonely : Fun B.K "lonely" "lonely" (top 41) a_lonely _ := fun_mk (st := (top 41)) l_lonely c_lonely kp_lonely
  have b_lonely := N_lonely.binds (ps := ["office"]) fun _ _ _ _ _ _ us hl => match us, hl with | [_], _ => rfl
  have k_lonely := kp_lonely
  have N__law_mix : Fun B.K "_law_mix" "_law_mix" (top 44) a__law_mix _ := fun_mk (st := (top 44)) l__law_mix c__law_mix kp__law_mix
  have b__law_mix := N__law_mix.binds (ps := ["_law_script", "_law_seed"]) fun _ _ _ _ _ _ us hl => match us, hl with | [_, _], _ => rfl
  have k__law_mix := kp__law_mix
  have N_law : Fun B.K "law" "law" (top 55) fa _ := fun_mk (st := (top 55)) l_law c_law kp_law
  have b_law := N_law.binds (ps := ["_law_script"]) fun _ _ _ _ _ _ us hl => match us, hl with | [_], _ => rfl
  have k_law := kp_law
  have N_Catalog__init__ : Fun B.K "__init__" "Catalog.__init__" (inClass (top 18) 0) a_Catalog__init__ _ := fun_mk (st := (inClass (top 18) 0)) l_Catalog__init__ c_Catalog__init__ kp_Catalog__init__
  have b_Catalog__init__ := N_Catalog__init__.binds (ps := ["self", "features"]) fun _ _ _ _ _ _ us hl => match us, hl with | [_, _], _ => rfl
  have N_Thing__init__ : Fun B.K "__init__" "Thing.__init__" (inClass (top 29) 0) a_Thing__init__ _ := fun_mk (st := (inClass (top 29) 0)) l_Thing__init__ c_Thing__init__ kp_Thing__init__
  have b_Thing__init__ := N_Thing__init__.binds (ps := ["self", "note", "day"]) fun _ _ _ _ _ _ us hl => match us, hl with | [_, _, _], _ => rfl
  have N_Catalog__contains__ : Fun B.K "__contains__" "Catalog.__contains__" (inClass (top 18) 5) a_Catalog__contains__ _ := fun_mk (st := (inClass (top 18) 5)) l_Catalog__contains__ c_Catalog__contains__ kp_Catalog__contains__
  have b_Catalog__contains__ := N_Catalog__contains__.binds (ps := ["self", "name"]) fun _ _ _ _ _ _ us hl => match us, hl with | [_, _], _ => rfl
  have N_Note__init__ : Fun B.K "__init__" "Note.__init__" (inClass (top 22) 0) a_Note__init__ _ := fun_mk (st := (inClass (top 22) 0)) l_Note__init__ c_Note__init__ kp_Note__init__
  have b_Note__init__ := N_Note__init__.binds (ps := ["self", "catalog", "told"]) fun _ _ _ _ _ _ us hl => match us, hl with | [_, _, _], _ => rfl
  have N_Claim__init__ : FunU B.K "__init__" "Claim.__init__" (inClass (top 30) 0) a_Claim__init__ _ 2 := fun_mkU (st := (inClass (top 30) 0)) (dvs := [.int 0, .int 1]) l_Claim__init__ c_Claim__init__ kp_Claim__init__ dl_Claim__init__ (List.cons_ne_nil _ _) (by repeat' constructor)
  have b_Claim__init__ := N_Claim__init__.bindsU (ps := ["self", "note", "day", "slips", "worth"]) fun _ _ _ _ _ _ _ us its hl hi => match us, its, hl, hi with | [_, _, _, _, _], [_, _], _, _ => ⟨_, rfl, rfl⟩
  have N_Catalog__eq__ : Fun B.K "__eq__" "Catalog.__eq__" (inClass (top 18) 7) a_Catalog__eq__ _ := fun_mk (st := (inClass (top 18) 7)) l_Catalog__eq__ c_Catalog__eq__ kp_Catalog__eq__
  have b_Catalog__eq__ := N_Catalog__eq__.binds (ps := ["self", "other"]) fun _ _ _ _ _ _ us hl => match us, hl with | [_, _], _ => rfl
  have N_Office__init__ : Fun B.K "__init__" "Office.__init__" (inClass (top 34) 0) a_Office__init__ _ := fun_mk (st := (inClass (top 34) 0)) l_Office__init__ c_Office__init__ kp_Office__init__
  have b_Office__init__ := N_Office__init__.binds (ps := ["self", "catalog", "things", "claims"]) fun _ _ _ _ _ _ us hl => match us, hl with | [_, _, _, _], _ => rfl
  have N_Note__getitem__ : Fun B.K "__getitem__" "Note.__getitem__" (inClass (top 22) 5) a_Note__getitem__ _ := fun_mk (st := (inClass (top 22) 5)) l_Note__getitem__ c_Note__getitem__ kp_Note__getitem__
  have b_Note__getitem__ := N_Note__getitem__.binds (ps := ["self", "name"]) fun _ _ _ _ _ _ us hl => match us, hl with | [_, _], _ => rfl
  have N_Catalog_features : Fun B.K "features" "Catalog.features" (inClass (top 18) 1) a_Catalog_features _ := fun_mk (st := (inClass (top 18) 1)) l_Catalog_features c_Catalog_features kp_Catalog_features
  have b_Catalog_features := N_Catalog_features.binds (ps := ["self"]) fun _ _ _ _ _ _ us hl => match us, hl with | [_], _ => rfl
  have N_Claim_note : Fun B.K "note" "Claim.note" (inClass (top 30) 1) a_Claim_note _ := fun_mk (st := (inClass (top 30) 1)) l_Claim_note c_Claim_note kp_Claim_note
  have b_Claim_note := N_Claim_note.binds (ps := ["self"]) fun _ _ _ _ _ _ us hl => match us, hl with | [_], _ => rfl
  have N_Thing_note : Fun B.K "note" "Thing.note" (inClass (top 29) 1) a_Thing_note _ := fun_mk (st := (inClass (top 29) 1)) l_Thing_note c_Thing_note kp_Thing_note
  have b_Thing_note := N_Thing_note.binds (ps := ["self"]) fun _ _ _ _ _ _ us hl => match us, hl with | [_], _ => rfl
  have N_Note_catalog : Fun B.K "catalog" "Note.catalog" (inClass (top 22) 1) a_Note_catalog _ := fun_mk (st := (inClass (top 22) 1)) l_Note_catalog c_Note_catalog kp_Note_catalog
  have b_Note_catalog := N_Note_catalog.binds (ps := ["self"]) fun _ _ _ _ _ _ us hl => match us, hl with | [_], _ => rfl
  have N_Office_claims : Fun B.K "claims" "Office.claims" (inClass (top 34) 3) a_Office_claims _ := fun_mk (st := (inClass (top 34) 3)) l_Office_claims c_Office_claims kp_Office_claims
  have b_Office_claims := N_Office_claims.binds (ps := ["self"]) fun _ _ _ _ _ _ us hl => match us, hl with | [_], _ => rfl
  have N_Office_things : Fun B.K "things" "Office.things" (inClass (top 34) 2) a_Office_things _ := fun_mk (st := (inClass (top 34) 2)) l_Office_things c_Office_things kp_Office_things
  have b_Office_things := N_Office_things.binds (ps := ["self"]) fun _ _ _ _ _ _ us hl => match us, hl with | [_], _ => rfl
  have N_Claim_day : Fun B.K "day" "Claim.day" (inClass (top 30) 2) a_Claim_day _ := fun_mk (st := (inClass (top 30) 2)) l_Claim_day c_Claim_day kp_Claim_day
  have b_Claim_day := N_Claim_day.binds (ps := ["self"]) fun _ _ _ _ _ _ us hl => match us, hl with | [_], _ => rfl
  have N_Thing_day : Fun B.K "day" "Thing.day" (inClass (top 29) 2) a_Thing_day _ := fun_mk (st := (inClass (top 29) 2)) l_Thing_day c_Thing_day kp_Thing_day
  have b_Thing_day := N_Thing_day.binds (ps := ["self"]) fun _ _ _ _ _ _ us hl => match us, hl with | [_], _ => rfl
  have N_Office_catalog : Fun B.K "catalog" "Office.catalog" (inClass (top 34) 1) a_Office_catalog _ := fun_mk (st := (inClass (top 34) 1)) l_Office_catalog c_Office_catalog kp_Office_catalog
  have b_Office_catalog := N_Office_catalog.binds (ps := ["self"]) fun _ _ _ _ _ _ us hl => match us, hl with | [_], _ => rfl
  have N_Catalog_names : Fun B.K "names" "Catalog.names" (inClass (top 18) 2) a_Catalog_names _ := fun_mk (st := (inClass (top 18) 2)) l_Catalog_names c_Catalog_names kp_Catalog_names
  have b_Catalog_names := N_Catalog_names.binds (ps := ["self"]) fun _ _ _ _ _ _ us hl => match us, hl with | [_], _ => rfl
  have N_Claim_slips : Fun B.K "slips" "Claim.slips" (inClass (top 30) 3) a_Claim_slips _ := fun_mk (st := (inClass (top 30) 3)) l_Claim_slips c_Claim_slips kp_Claim_slips
  have b_Claim_slips := N_Claim_slips.binds (ps := ["self"]) fun _ _ _ _ _ _ us hl => match us, hl with | [_], _ => rfl
  have N_InvalidCatalog__init__ : Fun B.K "__init__" "InvalidCatalog.__init__" (inClass (top 3) 0) a_InvalidCatalog__init__ _ := fun_mk (st := (inClass (top 3) 0)) l_InvalidCatalog__init__ c_InvalidCatalog__init__ kp_InvalidCatalog__init__
  have b_InvalidCatalog__init__ := N_InvalidCatalog__init__.binds (ps := ["self", "index"]) fun _ _ _ _ _ _ us hl => match us, hl with | [_, _], _ => rfl
  have N_InvalidEntry__init__ : Fun B.K "__init__" "InvalidEntry.__init__" (inClass (top 7) 0) a_InvalidEntry__init__ _ := fun_mk (st := (inClass (top 7) 0)) l_InvalidEntry__init__ c_InvalidEntry__init__ kp_InvalidEntry__init__
  have b_InvalidEntry__init__ := N_InvalidEntry__init__.binds (ps := ["self", "part"]) fun _ _ _ _ _ _ us hl => match us, hl with | [_, _], _ => rfl
  have N_InvalidNote__init__ : Fun B.K "__init__" "InvalidNote.__init__" (inClass (top 5) 0) a_InvalidNote__init__ _ := fun_mk (st := (inClass (top 5) 0)) l_InvalidNote__init__ c_InvalidNote__init__ kp_InvalidNote__init__
  have b_InvalidNote__init__ := N_InvalidNote__init__.binds (ps := ["self", "feature"]) fun _ _ _ _ _ _ us hl => match us, hl with | [_, _], _ => rfl
  have N_InvalidOffice__init__ : Fun B.K "__init__" "InvalidOffice.__init__" (inClass (top 8) 0) a_InvalidOffice__init__ _ := fun_mk (st := (inClass (top 8) 0)) l_InvalidOffice__init__ c_InvalidOffice__init__ kp_InvalidOffice__init__
  have b_InvalidOffice__init__ := N_InvalidOffice__init__.binds (ps := ["self", "part", "label"]) fun _ _ _ _ _ _ us hl => match us, hl with | [_, _, _], _ => rfl
  have cl_Catalog : Cls B.K (B.ca "Catalog") := ⟨pg_Catalog, hd_Catalog, po_Catalog, sa_Catalog⟩
  have A_Catalog__features : Cls B.K (B.ca "Catalog") ∧ NoAttr B.K (B.ca "Catalog") "_features" := ⟨cl_Catalog, n0_Catalog⟩
  have A_Catalog__values : Cls B.K (B.ca "Catalog") ∧ NoAttr B.K (B.ca "Catalog") "_values" := ⟨cl_Catalog, n1_Catalog⟩
  have E_Catalog : PySem.W.findIn B.K (.ref (B.ca "Catalog")) "__ne__" = some (some (.builtin "object.__ne__")) ∧ PySem.W.mroIn B.K (B.ca "Catalog") (.type "object") = some true := ⟨ne_Catalog, mo_Catalog⟩
  have K_Catalog : Mk B.K (B.ca "Catalog") a_Catalog__init__ := ⟨mk_Catalog, y_Catalog__init__, f_Catalog__init__, kc_Catalog⟩
  have I_Catalog : ∀ X : Cx, X.K = B.K → IsiOk B X [.ref (B.ca "Catalog")] isi_Catalog := fun X hK => isiC_Catalog hK ⟨cl_Catalog, ha_Catalog, hn, htk, mo_Catalog, kit_me⟩ (kit_no ic_Catalog ty_Catalog rfl) (kit_no ic_Catalog ty_Catalog rfl) (kit_no ic_Catalog ty_Catalog rfl) (kit_no ic_Catalog ty_Catalog rfl) (kit_no ic_Catalog ty_Catalog rfl) (kit_no ic_Catalog ty_Catalog rfl) (kit_no ic_Catalog ty_Catalog rfl)
  have cl_Note : Cls B.K (B.ca "Note") := ⟨pg_Note, hd_Note, po_Note, sa_Note⟩
  have A_Note__catalog : Cls B.K (B.ca "Note") ∧ NoAttr B.K (B.ca "Note") "_catalog" := ⟨cl_Note, n0_Note⟩
  have A_Note__values : Cls B.K (B.ca "Note") ∧ NoAttr B.K (B.ca "Note") "_values" := ⟨cl_Note, n1_Note⟩
  have K_Note : Mk B.K (B.ca "Note") a_Note__init__ := ⟨mk_Note, y_Note__init__, f_Note__init__, kc_Note⟩
  have cl_Thing : Cls B.K (B.ca "Thing") := ⟨pg_Thing, hd_Thing, po_Thing, sa_Thing⟩
  have A_Thing__note : Cls B.K (B.ca "Thing") ∧ NoAttr B.K (B.ca "Thing") "_note" := ⟨cl_Thing, n0_Thing⟩
  have A_Thing__day : Cls B.K (B.ca "Thing") ∧ NoAttr B.K (B.ca "Thing") "_day" := ⟨cl_Thing, n1_Thing⟩
  have K_Thing : Mk B.K (B.ca "Thing") a_Thing__init__ := ⟨mk_Thing, y_Thing__init__, f_Thing__init__, kc_Thing⟩
  have cl_Claim : Cls B.K (B.ca "Claim") := ⟨pg_Claim, hd_Claim, po_Claim, sa_Claim⟩
  have A_Claim__note : Cls B.K (B.ca "Claim") ∧ NoAttr B.K (B.ca "Claim") "_note" := ⟨cl_Claim, n0_Claim⟩
  have A_Claim__day : Cls B.K (B.ca "Claim") ∧ NoAttr B.K (B.ca "Claim") "_day" := ⟨cl_Claim, n1_Claim⟩
  have A_Claim__slips : Cls B.K (B.ca "Claim") ∧ NoAttr B.K (B.ca "Claim") "_slips" := ⟨cl_Claim, n2_Claim⟩
  have A_Claim__worth : Cls B.K (B.ca "Claim") ∧ NoAttr B.K (B.ca "Claim") "_worth" := ⟨cl_Claim, n3_Claim⟩
  have K_Claim : Mk B.K (B.ca "Claim") a_Claim__init__ := ⟨mk_Claim, y_Claim__init__, f_Claim__init__, kc_Claim⟩
  have cl_Office : Cls B.K (B.ca "Office") := ⟨pg_Office, hd_Office, po_Office, sa_Office⟩
  have A_Office__catalog : Cls B.K (B.ca "Office") ∧ NoAttr B.K (B.ca "Office") "_catalog" := ⟨cl_Office, n0_Office⟩
  have A_Office__things : Cls B.K (B.ca "Office") ∧ NoAttr B.K (B.ca "Office") "_things" := ⟨cl_Office, n1_Office⟩
  have A_Office__claims : Cls B.K (B.ca "Office") ∧ NoAttr B.K (B.ca "Office") "_claims" := ⟨cl_Office, n2_Office⟩
  have K_Office : Mk B.K (B.ca "Office") a_Office__init__ := ⟨mk_Office, y_Office__init__, f_Office__init__, kc_Office⟩
  have X_InvalidCatalog : OexC B.K (B.ca "InvalidCatalog") := ⟨⟨_, _, _, _, _, _, _, _, _, _, _, _, _, _, _, xc_InvalidCatalog, xr_InvalidCatalog⟩, xs_InvalidCatalog, xe_InvalidCatalog, xt_InvalidCatalog, xk_InvalidCatalog⟩
  have n_InvalidCatalog_index := xi_InvalidCatalog_index
  have i_InvalidCatalog := y_InvalidCatalog__init__
  have t_InvalidCatalog := f_InvalidCatalog__init__
  have F_InvalidCatalog__init__ : FnOk l.prog w B.K mg base (L2.CX l.prog w) 2 a_InvalidCatalog__init__ _ ["self", "index"] (spX (B.ca "InvalidCatalog") ["index"]) := ok_InvalidCatalog__init__ N_InvalidCatalog__init__ X_InvalidCatalog xi_InvalidCatalog_index
  have X_InvalidEntry : OexC B.K (B.ca "InvalidEntry") := ⟨⟨_, _, _, _, _, _, _, _, _, _, _, _, _, _, _, xc_InvalidEntry, xr_InvalidEntry⟩, xs_InvalidEntry, xe_InvalidEntry, xt_InvalidEntry, xk_InvalidEntry⟩
  have n_InvalidEntry_part := xi_InvalidEntry_part
  have i_InvalidEntry := y_InvalidEntry__init__
  have t_InvalidEntry := f_InvalidEntry__init__
  have F_InvalidEntry__init__ : FnOk l.prog w B.K mg base (L2.CX l.prog w) 2 a_InvalidEntry__init__ _ ["self", "part"] (spX (B.ca "InvalidEntry") ["part"]) := ok_InvalidEntry__init__ N_InvalidEntry__init__ X_InvalidEntry xi_InvalidEntry_part
  have X_InvalidNote : OexC B.K (B.ca "InvalidNote") := ⟨⟨_, _, _, _, _, _, _, _, _, _, _, _, _, _, _, xc_InvalidNote, xr_InvalidNote⟩, xs_InvalidNote, xe_InvalidNote, xt_InvalidNote, xk_InvalidNote⟩
  have n_InvalidNote_feature := xi_InvalidNote_feature
  have i_InvalidNote := y_InvalidNote__init__
  have t_InvalidNote := f_InvalidNote__init__
  have F_InvalidNote__init__ : FnOk l.prog w B.K mg base (L2.CX l.prog w) 2 a_InvalidNote__init__ _ ["self", "feature"] (spX (B.ca "InvalidNote") ["feature"]) := ok_InvalidNote__init__ N_InvalidNote__init__ X_InvalidNote xi_InvalidNote_feature
  have X_InvalidOffice : OexC B.K (B.ca "InvalidOffice") := ⟨⟨_, _, _, _, _, _, _, _, _, _, _, _, _, _, _, xc_InvalidOffice, xr_InvalidOffice⟩, xs_InvalidOffice, xe_InvalidOffice, xt_InvalidOffice, xk_InvalidOffice⟩
  have n_InvalidOffice_part := xi_InvalidOffice_part
  have n_InvalidOffice_label := xi_InvalidOffice_label
  have i_InvalidOffice := y_InvalidOffice__init__
  have t_InvalidOffice := f_InvalidOffice__init__
  have F_InvalidOffice__init__ : FnOk l.prog w B.K mg base (L2.CX l.prog w) 2 a_InvalidOffice__init__ _ ["self", "part", "label"] (spX (B.ca "InvalidOffice") ["part", "label"]) := ok_InvalidOffice__init__ N_InvalidOffice__init__ X_InvalidOffice xi_InvalidOffice_part xi_InvalidOffice_label
  have EF_UnknownLabel := PySem.F.excBase_ValueError
  have X_UnknownLabel := ux_UnknownLabel
  have k_UnknownLabel := uk_UnknownLabel
  have r_UnknownLabel : ∀ X : Cx, X.K = B.K → Raises X (.ref (B.ca "UnknownLabel")) := fun X hK => raises_own (by rw [hK]; exact xe_UnknownLabel) (by rw [hK]; exact xt_UnknownLabel)
  have EF_UnknownFeature := PySem.F.excBase_ValueError
  have X_UnknownFeature := ux_UnknownFeature
  have k_UnknownFeature := uk_UnknownFeature
  have r_UnknownFeature : ∀ X : Cx, X.K = B.K → Raises X (.ref (B.ca "UnknownFeature")) := fun X hK => raises_own (by rw [hK]; exact xe_UnknownFeature) (by rw [hK]; exact xt_UnknownFeature)
  have I_bool : ∀ X : Cx, X.K = B.K → IsiOk B X [.type "bool"] isi_bool := fun X hK => isi_bool_ok
  have I_dict : ∀ X : Cx, X.K = B.K → IsiOk B X [.type "dict"] isi_dict := fun X hK => isi_dict_ok
  have I_tuple_list : ∀ X : Cx, X.K = B.K → IsiOk B X [.type "tuple", .type "list"] isi_tuple_list := fun X hK => isi_tuple_list_ok
  have I_list : ∀ X : Cx, X.K = B.K → IsiOk B X [.type "list"] isi_list := fun X hK => isi_list_ok
  have I_str : ∀ X : Cx, X.K = B.K → IsiOk B X [.type "str"] isi_str := fun X hK => isi_str_ok
  have I_int : ∀ X : Cx, X.K = B.K → IsiOk B X [.type "int"] isi_int := fun X hK => isi_int_ok
  have F__law_next := ok__law_next (B := B) (P := l.prog) (w := w) (mg := mg) (base := base) N__law_next m_int m_len m_max
  have F__law_features := ok__law_features (B := B) (P := l.prog) (w := w) (mg := mg) (base := base) N__law_features m_range m_len m_tuple F__law_next m__law_next k__law_next b__law_next
  have F__law_some := ok__law_some (B := B) (P := l.prog) (w := w) (mg := mg) (base := base) N__law_some m_tuple m_len F__law_next m__law_next k__law_next b__law_next
  have F__law_sets := ok__law_sets (B := B) (P := l.prog) (w := w) (mg := mg) (base := base) N__law_sets m_dict F__law_some m__law_some k__law_some b__law_some
  have F__law_drawn := ok__law_drawn (B := B) (P := l.prog) (w := w) (mg := mg) (base := base) N__law_drawn F__law_features m__law_features k__law_features b__law_features F__law_next m__law_next k__law_next b__law_next F__law_sets m__law_sets k__law_sets b__law_sets
  have F_is_word := ok_is_word (B := B) (P := l.prog) (w := w) (mg := mg) (base := base) N_is_word m_len m_MOST_LETTERS m_all
  have F_ascends := ok_ascends (B := B) (P := l.prog) (w := w) (mg := mg) (base := base) N_ascends m_zip m_all
  have F_is_feature := ok_is_feature (B := B) (P := l.prog) (w := w) (mg := mg) (base := base) N_is_feature m_FEWEST_VALUES m_len m_MOST_VALUES m_all F_is_word m_is_word k_is_word b_is_word F_ascends m_ascends k_ascends b_ascends
  have F_Catalog__init__ := ok_Catalog__init__ (B := B) (P := l.prog) (w := w) (mg := mg) (base := base) N_Catalog__init__ m_len F_InvalidCatalog__init__ X_InvalidCatalog i_InvalidCatalog t_InvalidCatalog b_InvalidCatalog__init__ m_InvalidCatalog m_enumerate m_MOST_FEATURES A_Catalog__features m_dict A_Catalog__values F_is_feature m_is_feature k_is_feature b_is_feature
  have F_in_range := ok_in_range (B := B) (P := l.prog) (w := w) (mg := mg) (base := base) N_in_range I_bool m_bool m_isinstance
  have F_Thing__init__ := ok_Thing__init__ (B := B) (P := l.prog) (w := w) (mg := mg) (base := base) N_Thing__init__ m_LAST_DAY F_InvalidEntry__init__ X_InvalidEntry i_InvalidEntry t_InvalidEntry b_InvalidEntry__init__ m_InvalidEntry A_Thing__note A_Thing__day F_in_range m_in_range k_in_range b_in_range
  have F_Catalog__contains__ := ok_Catalog__contains__ (B := B) (P := l.prog) (w := w) (mg := mg) (base := base) N_Catalog__contains__ A_Catalog__values
  have M_Catalog__contains__ : OwnP B l.prog w mg base 3 "__contains__" 2 "Catalog" (g_Catalog__contains__ B) := ⟨⟨_, _, _, y_Catalog__contains__, f_Catalog__contains__, fi_Catalog__contains__, kp_Catalog__contains__, cl_Catalog, b_Catalog__contains__, rfl, F_Catalog__contains__⟩⟩
  have F_Catalog_features := ok_Catalog_features (B := B) (P := l.prog) (w := w) (mg := mg) (base := base) N_Catalog_features A_Catalog__features
  have A_Catalog_features : AtP B l.prog w mg base 3 "features" "Catalog" (g_Catalog_features B) := ⟨cl_Catalog, _, _, _, _, ⟨p1_Catalog_features, p2_Catalog_features, p3_Catalog_features, _, p4_Catalog_features⟩, b_Catalog_features, rfl, F_Catalog_features⟩
  have F_is_choice := ok_is_choice (B := B) (P := l.prog) (w := w) (mg := mg) (base := base) N_is_choice m_len m_all F_ascends m_ascends k_ascends b_ascends
  have F_Note__init__ := ok_Note__init__ (B := B) (P := l.prog) (w := w) (mg := mg) (base := base) N_Note__init__ M_Catalog__contains__ m_len A_Catalog_features F_InvalidNote__init__ X_InvalidNote i_InvalidNote t_InvalidNote b_InvalidNote__init__ m_InvalidNote A_Note__catalog A_Note__values F_is_choice m_is_choice k_is_choice b_is_choice
  have F__law_note := ok__law_note (B := B) (P := l.prog) (w := w) (mg := mg) (base := base) N__law_note m_dict K_Note m_Note b_Note__init__ F_Note__init__
  have F_Claim__init__ := ok_Claim__init__ (B := B) (P := l.prog) (w := w) (mg := mg) (base := base) N_Claim__init__ m_LAST_DAY F_InvalidEntry__init__ X_InvalidEntry i_InvalidEntry t_InvalidEntry b_InvalidEntry__init__ m_InvalidEntry m_MOST_SLIPS m_MOST_WORTH A_Claim__note A_Claim__day A_Claim__slips A_Claim__worth F_in_range m_in_range k_in_range b_in_range
  have F_Claim_note := ok_Claim_note (B := B) (P := l.prog) (w := w) (mg := mg) (base := base) N_Claim_note A_Claim__note
  have A_Claim_note : AtP B l.prog w mg base 3 "note" "Claim" (g_Claim_note B) := ⟨cl_Claim, _, _, _, _, ⟨p1_Claim_note, p2_Claim_note, p3_Claim_note, _, p4_Claim_note⟩, b_Claim_note, rfl, F_Claim_note⟩
  have F_Thing_note := ok_Thing_note (B := B) (P := l.prog) (w := w) (mg := mg) (base := base) N_Thing_note A_Thing__note
  have A_Thing_note : AtP B l.prog w mg base 3 "note" "Thing" (g_Thing_note B) := ⟨cl_Thing, _, _, _, _, ⟨p1_Thing_note, p2_Thing_note, p3_Thing_note, _, p4_Thing_note⟩, b_Thing_note, rfl, F_Thing_note⟩
  have F_Note_catalog := ok_Note_catalog (B := B) (P := l.prog) (w := w) (mg := mg) (base := base) N_Note_catalog A_Note__catalog
  have A_Note_catalog : AtP B l.prog w mg base 3 "catalog" "Note" (g_Note_catalog B) := ⟨cl_Note, _, _, _, _, ⟨p1_Note_catalog, p2_Note_catalog, p3_Note_catalog, _, p4_Note_catalog⟩, b_Note_catalog, rfl, F_Note_catalog⟩
  have F_Catalog__eq__ := ok_Catalog__eq__ (B := B) (P := l.prog) (w := w) (mg := mg) (base := base) N_Catalog__eq__ I_Catalog m_Catalog m_isinstance A_Catalog__features
  have M_Catalog__eq__ : OwnP B l.prog w mg base 3 "__eq__" 2 "Catalog" (g_Catalog__eq__ B) := ⟨⟨_, _, _, y_Catalog__eq__, f_Catalog__eq__, fi_Catalog__eq__, kp_Catalog__eq__, cl_Catalog, b_Catalog__eq__, rfl, F_Catalog__eq__⟩⟩
  have F_check_entries := ok_check_entries (B := B) (P := l.prog) (w := w) (mg := mg) (base := base) N_check_entries m_sorted A_Claim_note A_Thing_note A_Note_catalog M_Catalog__eq__ E_Catalog F_InvalidOffice__init__ X_InvalidOffice i_InvalidOffice t_InvalidOffice b_InvalidOffice__init__ m_InvalidOffice m_len m_MOST_ENTRIES F_is_word m_is_word k_is_word b_is_word
  have F_in_order := ok_in_order (B := B) (P := l.prog) (w := w) (mg := mg) (base := base) N_in_order m_sorted
  have F_Office__init__ := ok_Office__init__ (B := B) (P := l.prog) (w := w) (mg := mg) (base := base) N_Office__init__ A_Office__catalog A_Office__things A_Office__claims F_check_entries m_check_entries k_check_entries b_check_entries F_in_order m_in_order k_in_order b_in_order
  have F__law_office := ok__law_office (B := B) (P := l.prog) (w := w) (mg := mg) (base := base) N__law_office K_Catalog m_Catalog b_Catalog__init__ K_Thing m_Thing b_Thing__init__ K_Claim m_Claim b_Claim__init__ K_Office m_Office b_Office__init__ F_Catalog__init__ F__law_note m__law_note k__law_note b__law_note F_Thing__init__ F_Claim__init__ F_Office__init__
  have F__law_apart := ok__law_apart (B := B) (P := l.prog) (w := w) (mg := mg) (base := base) N__law_apart 
  have F__law_can := ok__law_can (B := B) (P := l.prog) (w := w) (mg := mg) (base := base) N__law_can m_len F__law_apart m__law_apart k__law_apart b__law_apart
  have F__law_alike := ok__law_alike (B := B) (P := l.prog) (w := w) (mg := mg) (base := base) N__law_alike m__law_alike k__law_alike b__law_alike I_dict m_dict m_isinstance I_tuple_list m_list m_tuple I_list m_len m_range I_str m_str I_int m_int I_bool m_bool 6
  have F_Office_claims := ok_Office_claims (B := B) (P := l.prog) (w := w) (mg := mg) (base := base) N_Office_claims A_Office__claims m_dict
  have A_Office_claims : AtP B l.prog w mg base 3 "claims" "Office" (g_Office_claims B) := ⟨cl_Office, _, _, _, _, ⟨p1_Office_claims, p2_Office_claims, p3_Office_claims, _, p4_Office_claims⟩, b_Office_claims, rfl, F_Office_claims⟩
  have F_Office_things := ok_Office_things (B := B) (P := l.prog) (w := w) (mg := mg) (base := base) N_Office_things A_Office__things m_dict
  have A_Office_things : AtP B l.prog w mg base 3 "things" "Office" (g_Office_things B) := ⟨cl_Office, _, _, _, _, ⟨p1_Office_things, p2_Office_things, p3_Office_things, _, p4_Office_things⟩, b_Office_things, rfl, F_Office_things⟩
  have F_claim_of := ok_claim_of (B := B) (P := l.prog) (w := w) (mg := mg) (base := base) N_claim_of A_Office_claims EF_UnknownLabel X_UnknownLabel m_UnknownLabel k_UnknownLabel r_UnknownLabel
  have F_thing_of := ok_thing_of (B := B) (P := l.prog) (w := w) (mg := mg) (base := base) N_thing_of A_Office_things EF_UnknownLabel X_UnknownLabel m_UnknownLabel k_UnknownLabel r_UnknownLabel
  have F_Claim_day := ok_Claim_day (B := B) (P := l.prog) (w := w) (mg := mg) (base := base) N_Claim_day A_Claim__day
  have A_Claim_day : AtP B l.prog w mg base 3 "day" "Claim" (g_Claim_day B) := ⟨cl_Claim, _, _, _, _, ⟨p1_Claim_day, p2_Claim_day, p3_Claim_day, _, p4_Claim_day⟩, b_Claim_day, rfl, F_Claim_day⟩
  have F_Thing_day := ok_Thing_day (B := B) (P := l.prog) (w := w) (mg := mg) (base := base) N_Thing_day A_Thing__day
  have A_Thing_day : AtP B l.prog w mg base 3 "day" "Thing" (g_Thing_day B) := ⟨cl_Thing, _, _, _, _, ⟨p1_Thing_day, p2_Thing_day, p3_Thing_day, _, p4_Thing_day⟩, b_Thing_day, rfl, F_Thing_day⟩
  have F_Office_catalog := ok_Office_catalog (B := B) (P := l.prog) (w := w) (mg := mg) (base := base) N_Office_catalog A_Office__catalog
  have A_Office_catalog : AtP B l.prog w mg base 3 "catalog" "Office" (g_Office_catalog B) := ⟨cl_Office, _, _, _, _, ⟨p1_Office_catalog, p2_Office_catalog, p3_Office_catalog, _, p4_Office_catalog⟩, b_Office_catalog, rfl, F_Office_catalog⟩
  have F_Catalog_names := ok_Catalog_names (B := B) (P := l.prog) (w := w) (mg := mg) (base := base) N_Catalog_names A_Catalog__values m_tuple
  have A_Catalog_names : AtP B l.prog w mg base 3 "names" "Catalog" (g_Catalog_names B) := ⟨cl_Catalog, _, _, _, _, ⟨p1_Catalog_names, p2_Catalog_names, p3_Catalog_names, _, p4_Catalog_names⟩, b_Catalog_names, rfl, F_Catalog_names⟩
  have F_Note__getitem__ := ok_Note__getitem__ (B := B) (P := l.prog) (w := w) (mg := mg) (base := base) N_Note__getitem__ A_Note__values EF_UnknownFeature X_UnknownFeature m_UnknownFeature k_UnknownFeature r_UnknownFeature
  have M_Note__getitem__ : OwnP B l.prog w mg base 3 "__getitem__" 2 "Note" (g_Note__getitem__ B) := ⟨⟨_, _, _, y_Note__getitem__, f_Note__getitem__, fi_Note__getitem__, kp_Note__getitem__, cl_Note, b_Note__getitem__, rfl, F_Note__getitem__⟩⟩
  have F_common_values := ok_common_values (B := B) (P := l.prog) (w := w) (mg := mg) (base := base) N_common_values M_Note__getitem__ m_tuple
  have F_misfits := ok_misfits (B := B) (P := l.prog) (w := w) (mg := mg) (base := base) N_misfits A_Claim_note A_Thing_note A_Office_catalog A_Catalog_names m_len F_claim_of m_claim_of k_claim_of b_claim_of F_thing_of m_thing_of k_thing_of b_thing_of F_common_values m_common_values k_common_values b_common_values
  have F_Claim_slips := ok_Claim_slips (B := B) (P := l.prog) (w := w) (mg := mg) (base := base) N_Claim_slips A_Claim__slips
  have A_Claim_slips : AtP B l.prog w mg base 3 "slips" "Claim" (g_Claim_slips B) := ⟨cl_Claim, _, _, _, _, ⟨p1_Claim_slips, p2_Claim_slips, p3_Claim_slips, _, p4_Claim_slips⟩, b_Claim_slips, rfl, F_Claim_slips⟩
  have F_fits := ok_fits (B := B) (P := l.prog) (w := w) (mg := mg) (base := base) N_fits A_Claim_day A_Thing_day m_len A_Claim_slips F_claim_of m_claim_of k_claim_of b_claim_of F_thing_of m_thing_of k_thing_of b_thing_of F_misfits m_misfits k_misfits b_misfits
  have F_candidates := ok_candidates (B := B) (P := l.prog) (w := w) (mg := mg) (base := base) N_candidates A_Office_claims A_Office_things EF_UnknownLabel X_UnknownLabel m_UnknownLabel k_UnknownLabel r_UnknownLabel F_fits m_fits k_fits b_fits
  have F_rivals := ok_rivals (B := B) (P := l.prog) (w := w) (mg := mg) (base := base) N_rivals A_Office_claims m_any F_claim_of m_claim_of k_claim_of b_claim_of F_candidates m_candidates k_candidates b_candidates F_fits m_fits k_fits b_fits
  have F_lonely := ok_lonely (B := B) (P := l.prog) (w := w) (mg := mg) (base := base) N_lonely A_Office_things m_list A_Office_claims m_sorted m_len F_candidates m_candidates k_candidates b_candidates
  have F__law_mix := ok__law_mix (B := B) (P := l.prog) (w := w) (mg := mg) (base := base) N__law_mix m_list m_int
  exact ok_law (B := B) (P := l.prog) (w := w) (mg := mg) (base := base) N_law m_range m_int m_sorted F__law_drawn m__law_drawn k__law_drawn b__law_drawn F__law_office m__law_office k__law_office b__law_office F__law_can m__law_can k__law_can b__law_can F_candidates m_candidates k_candidates b_candidates F__law_alike m__law_alike k__law_alike b__law_alike F_rivals m_rivals k_rivals b_rivals F_lonely m_lonely k_lonely b_lonely F__law_mix m__law_mix k__law_mix b__law_mix (hev B)
end K6

set_option Elab.async false
set_option linter.all false
set_option maxRecDepth 100000
/-! # What the program's defs answer, on plain data: notes, fits -/
namespace Lo
open PySem PySem.Spec PyProof.Rows L2 Evl Dv
abbrev FV := List (Str × List Str)
def wD (w : List Str) : D := .tup true (w.map D.str)
def fD (f : Str × List Str) : D := .tup true [.str f.1, wD f.2]
def kvD (f : Str × List Str) : Key × D := (.inr f.1, wD f.2)
def catD (fs : FV) : D := .ins "Catalog" [("_features", .tup true (fs.map fD)), ("_values", .dic true (fs.map kvD))]
def noteD (fs vs : FV) : D := .ins "Note" [("_catalog", catD fs), ("_values", .dic true (vs.map kvD))]
structure Th where
  v : FV
  day : Int
structure Cl where
  v : FV
  day : Int
  slips : Nat
  worth : Int
def thD (fs : FV) (t : Th) : D := .ins "Thing" [("_note", noteD fs t.v), ("_day", .int t.day)]
def clD (fs : FV) (c : Cl) : D := .ins "Claim" [("_note", noteD fs c.v), ("_day", .int c.day), ("_slips", .int (c.slips : Nat)), ("_worth", .int c.worth)]
def encK {α : Type} (f : α → D) (p : Str × α) : Key × D := (.inr p.1, f p.2)
structure Of where
  fs : FV
  ths : List (Str × Th)
  cls : List (Str × Cl)
def thsD (o : Of) : D := .dic true (o.ths.map (encK (thD o.fs)))
def clsD (o : Of) : D := .dic true (o.cls.map (encK (clD o.fs)))
def offD (o : Of) : D := .ins "Office" [("_catalog", catD o.fs), ("_things", thsD o), ("_claims", clsD o)]

/-- what stands under a name -/
def getS {α : Type} (l : List (Str × α)) (x : Str) : Option α := (l.find? fun p => decide (p.1 = x)).map (·.2)
theorem lookK_enc {α : Type} {f : α → D} {x : Str} : ∀ l : List (Str × α), lookK (l.map (encK f)) (.inr x) = (getS l x).map f
  | [] => rfl
  | (n, a) :: l => by
    have ih := lookK_enc (f := f) (x := x) l
    unfold lookK getS at *
    rw [List.map_cons, List.find?_cons, List.find?_cons]
    by_cases h : n = x
    · subst h
      simp [encK]
    · have h2 : ¬ ((Sum.inr n : Key) = .inr x) := fun z => h (Sum.inr.inj z)
      simp only [encK, h, h2, decide_false]
      exact ih
theorem any_enc {α : Type} {f : α → D} {x : Str} : ∀ l : List (Str × α), hasK (l.map (encK f)) (.inr x) = (getS l x).isSome
  | [] => rfl
  | (n, a) :: l => by
    have ih := any_enc (f := f) (x := x) l
    unfold getS hasK at *
    rw [List.map_cons, List.any_cons, List.find?_cons]
    by_cases h : n = x
    · subst h
      simp [encK]
    · have h2 : ¬ ((Sum.inr n : Key) = .inr x) := fun z => h (Sum.inr.inj z)
      simp only [encK, h, h2, decide_false, Bool.false_or]
      exact ih
theorem kvD_enc : kvD = encK wD := rfl
section
variable {B : Bs} {s : HS} {fs gs vs us : FV} {f n x : Str} {w : List Str} {o : Of} {g g' : Gf} {t : Th} {c : Cl} {d e : D} {neg : Bool}
@[simp] theorem at_noteF1 : atE [("Note", .fld)] "_catalog" (noteD fs vs) s = .ret (catD fs) s := rfl
@[simp] theorem at_noteF2 : atE [("Note", .fld)] "_values" (noteD fs vs) s = .ret (.dic true (vs.map (encK wD))) s := rfl
@[simp] theorem at_catF1 : atE [("Catalog", .fld)] "_features" (catD fs) s = .ret (.tup true (fs.map fD)) s := rfl
@[simp] theorem at_catF2 : atE [("Catalog", .fld)] "_values" (catD fs) s = .ret (.dic true (fs.map (encK wD))) s := rfl
@[simp] theorem at_offF1 : atE [("Office", .fld)] "_catalog" (offD o) s = .ret (catD o.fs) s := rfl
@[simp] theorem at_offF2 : atE [("Office", .fld)] "_things" (offD o) s = .ret (thsD o) s := rfl
@[simp] theorem at_offF3 : atE [("Office", .fld)] "_claims" (offD o) s = .ret (clsD o) s := rfl
@[simp] theorem at_thF1 : atE [("Thing", .fld)] "_note" (thD fs t) s = .ret (noteD fs t.v) s := rfl
@[simp] theorem at_thF2 : atE [("Thing", .fld)] "_day" (thD fs t) s = .ret (.int t.day) s := rfl
@[simp] theorem at_clF1 : atE [("Claim", .fld)] "_note" (clD fs c) s = .ret (noteD fs c.v) s := rfl
@[simp] theorem at_clF2 : atE [("Claim", .fld)] "_day" (clD fs c) s = .ret (.int c.day) s := rfl
@[simp] theorem at_clF3 : atE [("Claim", .fld)] "_slips" (clD fs c) s = .ret (.int (c.slips : Nat)) s := rfl
@[simp] theorem at_clF4 : atE [("Claim", .fld)] "_worth" (clD fs c) s = .ret (.int c.worth) s := rfl
@[simp] theorem at_note : atE [("Note", .prop g)] f (noteD fs vs) s = g [noteD fs vs] s := rfl
@[simp] theorem at_cat : atE [("Catalog", .prop g)] f (catD fs) s = g [catD fs] s := rfl
@[simp] theorem at_off : atE [("Office", .prop g)] f (offD o) s = g [offD o] s := rfl
@[simp] theorem at_th : atE [("Thing", .prop g), ("Claim", .prop g')] f (thD fs t) s = g [thD fs t] s := rfl
@[simp] theorem at_cl : atE [("Thing", .prop g), ("Claim", .prop g')] f (clD fs c) s = g' [clD fs c] s := rfl
@[simp] theorem at_cl1 : atE [("Claim", .prop g)] f (clD fs c) s = g [clD fs c] s := rfl
@[simp] theorem ix_note : ixE [("Note", g)] (noteD fs vs) e s = g [noteD fs vs, e] s := rfl
@[simp] theorem in_cat : inE neg [("Catalog", g)] d (catD fs) s = (g [catD fs, d] s).bindB fun b s1 => .ret (.bl (if neg then !b else b)) s1 := rfl
@[simp] theorem in_off : inE neg [("Office", g)] d (offD o) s = (g [offD o, d] s).bindB fun b s1 => .ret (.bl (if neg then !b else b)) s1 := rfl
@[simp] theorem eq_cat : eqE neg [("Catalog", g)] (catD fs) (catD gs) s = (g [catD fs, catD gs] s).bindB fun b s1 => .ret (.bl (if neg then !b else b)) s1 := rfl
@[simp] theorem eq_note : eqE neg [("Note", g)] (noteD fs vs) (noteD gs us) s = (g [noteD fs vs, noteD gs us] s).bindB fun b s1 => .ret (.bl (if neg then !b else b)) s1 := rfl
@[simp] theorem dicA_d {pl : Bool} {kvs : List (Key × D)} : dicA [.dic pl kvs] = some kvs := by cases pl <;> rfl
@[simp] theorem od_f {ds : List D} : (od_dict B).f ds = dicA ds := rfl
theorem note_get (h : getS vs n = some w) : g_Note__getitem__ B [noteD fs vs, .str n] s = .ret (wD w) s := by
  unfold g_Note__getitem__
  rw [z_fn]
  simp [p_Note__getitem__, any_enc, lookK_enc, h]
@[simp] theorem off_claims : g_Office_claims B [offD o] s = .ret (clsD o) s := by
  unfold g_Office_claims
  rw [z_fn]
  simp [p_Office_claims, clsD]
@[simp] theorem off_things : g_Office_things B [offD o] s = .ret (thsD o) s := by
  unfold g_Office_things
  rw [z_fn]
  simp [p_Office_things, thsD]
@[simp] theorem off_catalog : g_Office_catalog B [offD o] s = .ret (catD o.fs) s := by
  unfold g_Office_catalog
  rw [z_fn]
  simp [p_Office_catalog]
@[simp] theorem th_note : g_Thing_note B [thD fs t] s = .ret (noteD fs t.v) s := by
  unfold g_Thing_note
  rw [z_fn]
  simp [p_Thing_note]
@[simp] theorem th_day : g_Thing_day B [thD fs t] s = .ret (.int t.day) s := by
  unfold g_Thing_day
  rw [z_fn]
  simp [p_Thing_day]
@[simp] theorem cl_note : g_Claim_note B [clD fs c] s = .ret (noteD fs c.v) s := by
  unfold g_Claim_note
  rw [z_fn]
  simp [p_Claim_note]
@[simp] theorem cl_day : g_Claim_day B [clD fs c] s = .ret (.int c.day) s := by
  unfold g_Claim_day
  rw [z_fn]
  simp [p_Claim_day]
@[simp] theorem cl_slips : g_Claim_slips B [clD fs c] s = .ret (.int (c.slips : Nat)) s := by
  unfold g_Claim_slips
  rw [z_fn]
  simp [p_Claim_slips]
@[simp] theorem note_catalog : g_Note_catalog B [noteD fs vs] s = .ret (catD fs) s := by
  unfold g_Note_catalog
  rw [z_fn]
  simp [p_Note_catalog]
@[simp] theorem cat_features : g_Catalog_features B [catD fs] s = .ret (.tup true (fs.map fD)) s := by
  unfold g_Catalog_features
  rw [z_fn]
  simp [p_Catalog_features]
@[simp] theorem o_tupA_d {pl : Bool} {kvs : List (Key × D)} : (o_tupA B).f [.dic pl kvs] = some (.tup true (kvs.map fun kv => dKy kv.1)) := by cases pl <;> rfl
@[simp] theorem o_tupA_l {ds : List D} : (o_tupA B).f [.lst ds] = some (.tup true ds) := rfl
@[simp] theorem cat_names : g_Catalog_names B [catD fs] s = .ret (wD (fs.map (·.1))) s := by
  unfold g_Catalog_names
  rw [z_fn]
  simp [p_Catalog_names, wD, encK, dKy, Function.comp_def]
theorem claim_of (h : getS o.cls x = some c) : g_claim_of B [offD o, .str x] s = .ret (clD o.fs c) s := by
  unfold g_claim_of
  rw [z_fn]
  simp [p_claim_of, clsD, any_enc, lookK_enc, h]
theorem thing_of (h : getS o.ths x = some t) : g_thing_of B [offD o, .str x] s = .ret (thD o.fs t) s := by
  unfold g_thing_of
  rw [z_fn]
  simp [p_thing_of, thsD, any_enc, lookK_enc, h]
end
end Lo

set_option Elab.async false
set_option linter.all false
set_option maxRecDepth 100000
/-! # fits, misfits, shared_count -/
namespace Lo
open PySem PySem.Spec PyProof.Rows L2 Evl Dv
/-! ### values -/
theorem fls_str : ∀ ns : List Str, fls (ns.map D.str) = some (ns.map V.str)
  | [] => rfl
  | a :: r => by
    show (match fls (r.map D.str) with
      | some vs => some (V.str a :: vs)
      | none => none) = _
    rw [fls_str r]
    exact rfl
theorem inV_str (n : Str) (ns : List Str) : inV (.str n) (ns.map V.str) = decide (n ∈ ns) := by
  unfold inV
  induction ns with
  | nil => simp
  | cons a r ih =>
    rw [List.map_cons, List.any_cons, ih]
    have e : eqV (.str a) (.str n) = decide (n = a) := by
      show (a == n) = _
      by_cases h : n = a
      · subst h; simp
      · rw [decide_eq_false h]; simp; exact fun z => h z.symm
    rw [e]
    by_cases h1 : n = a
    · simp [h1]
    · simp [h1]
section
variable {B : Bs} {s : HS} {neg pl : Bool} {n : Str} {ns : List Str} {i j : Int}
@[simp] theorem inF_lst : inF neg (.str n) (.lst (ns.map D.str)) = some (.bl (if neg then !decide (n ∈ ns) else decide (n ∈ ns))) := by
  show (match fls (ns.map D.str) with
    | some vs => some (D.bl (if neg then !inV (.str n) vs else inV (.str n) vs))
    | none => none) = _
  rw [fls_str]
  dsimp only
  rw [inV_str]
@[simp] theorem inF_tup : inF neg (.str n) (.tup pl (ns.map D.str)) = some (.bl (if neg then !decide (n ∈ ns) else decide (n ∈ ns))) := by
  show (match fls (ns.map D.str) with
    | some vs => some (D.bl (if neg then !inV (.str n) vs else inV (.str n) vs))
    | none => none) = _
  rw [fls_str]
  dsimp only
  rw [inV_str]
@[simp] theorem inE_wD {hs : Hd} : inE neg hs (.str n) (wD ns) s = .ret (.bl (if neg then !decide (n ∈ ns) else decide (n ∈ ns))) s := by
  unfold wD
  rw [z_inT, inF_tup]
  exact rfl
theorem eqv_ints (i j : Int) : PyData.eqv (.int i) (.int j) = decide (i = j) := by
  by_cases h : i = j
  · simp [PyData.eqv, h]
  · simp [PyData.eqv, h]
@[simp] theorem eq_ints : eqE neg [] (.int i) (.int j) s = .ret (.bl (if neg then !decide (i = j) else decide (i = j))) s := by
  show Res.opt (if SeqAt.shaped (.int i) = true ∧ SeqAt.shaped (.int j) = true then some (.bl (if neg then !PyData.eqv (.int i) (.int j) else PyData.eqv (.int i) (.int j))) else none) s = _
  rw [if_pos ⟨rfl, rfl⟩, eqv_ints]
  exact rfl
@[simp] theorem walk_wD : walkOf (wD ns) = some (ns.map D.str) := rfl
@[simp] theorem len_wD {hs : Hd} : lenE hs (wD ns) s = .ret (.int (ns.length : Nat)) s := by
  show Res.ret (.int (((ns.map D.str).length : Nat) : Int)) s = _
  rw [List.length_map]
@[simp] theorem f_add : (o_add B).f (.int i) (.int j) = some (.int (i + j)) := rfl
@[simp] theorem f_sub : (o_subI B).f (.int i) (.int j) = some (.int (i - j)) := rfl
@[simp] theorem f_gt : (o_gtI B).f (.int i) (.int j) = some (.bl (decide (j < i))) := rfl
@[simp] theorem f_ge : (o_geI B).f (.int i) (.int j) = some (.bl (decide (j ≤ i))) := rfl
@[simp] theorem f_le : (o_le B).f (.int i) (.int j) = some (.bl (decide (i ≤ j))) := rfl
@[simp] theorem f_lt : (o_lt B).f (.int i) (.int j) = some (.bl (decide (i < j))) := rfl
@[simp] theorem f_int : (o_int B).f [.int i] = some (.int i) := rfl
@[simp] theorem f_intB {k : Bool} : (o_int B).f [.bl k] = some (.int (if k then 1 else 0)) := rfl
theorem f_mul (h : CMul i j) : (o_mul B).f (.int i) (.int j) = some (.int (i * j)) := by
  show (match (if CMul i j then some (D.int (i * j)) else none) with
    | some z => some z
    | none => (o_repL B).f (.int i) (.int j)) = _
  rw [if_pos h]
theorem f_mod (h : 0 < j) : (o_modI B).f (.int i) (.int j) = some (.int (i % j)) := if_pos h
theorem f_div (h : CDiv i j) : (o_divI B).f (.int i) (.int j) = some (.int (i / j)) := if_pos h
theorem f_pow (h : CPow i j) : (o_powI B).f (.int i) (.int j) = some (.int (i ^ j.toNat)) := if_pos h
end
/-! ### common values -/
def com (a b : List Str) : List Str := a.filter fun x => decide (x ∈ b)
/-- the values of a feature in a note -/
def va (vs : FV) (n : Str) : List Str := (getS vs n).getD []
/-- the note speaks of each of these features, of not too many values -/
def Has (fs vs : FV) : Prop := ∀ f ∈ fs, ∃ w, getS vs f.1 = some w ∧ w.length ≤ 1000
section
variable {B : Bs} {s : HS} {fs gs vs us : FV} {n x c t : Str} {w a b : List Str} {o : Of} {cl : Cl} {th : Th}
theorem common_values (ha : getS vs n = some a) (hb : getS us n = some b) (hl : a.length ≤ 100000) : g_common_values B [noteD fs vs, noteD gs us, .str n] s = .ret (wD (com a b)) s := by
  unfold g_common_values
  rw [z_fn]
  have e := lc_pure (Γ := [.fr (noteD fs vs), .fr (noteD gs us), .fr (.str n), .no]) (s := s) (vs := [3]) (as := (XG.name B 3).as) (tt := (XT.ofE (XE.in false [] (XE.var B 3) (XE.ix [("Note", g_Note__getitem__ B)] (XE.var B 1) (XE.var B 2)))).ev) (ee := (XE.var B 3).ev) (enc := D.str) (l := fun x => [(3, .str x)]) (P := fun x => decide (x ∈ b)) (f := D.str) a
    (fun _ _ => rfl) (fun _ _ => rfl) (fun x _ => by simp [note_get hb]) (fun x _ _ => by simp)
  simp [p_common_values, note_get ha, wipeG, hl, e]
  rfl
theorem getS_some {α : Type} {x : Str} {v : α} : ∀ {l : List (Str × α)}, getS l x = some v → (x, v) ∈ l
  | [], h => by cases h
  | (n, a) :: l, h => by
    unfold getS at h
    rw [List.find?_cons] at h
    by_cases hn : n = x
    · subst hn
      simp at h
      subst h
      exact List.mem_cons_self ..
    · simp only [hn, decide_false] at h
      exact List.mem_cons_of_mem _ (getS_some h)
def misF (fs lost found : FV) : List Str := (fs.map (·.1)).filter fun n => decide (com (va lost n) (va found n) = [])
theorem misfits (hc : getS o.cls c = some cl) (ht : getS o.ths t = some th) (h1 : Has o.fs cl.v) (h2 : Has o.fs th.v) (hl : o.fs.length ≤ 1000) : g_misfits B [offD o, .str c, .str t] s = .ret (.lst ((misF o.fs cl.v th.v).map D.str)) s := by
  unfold g_misfits
  rw [z_fn]
  have e := lc_pure (Γ := [.fr (offD o), .fr (.str c), .fr (.str t), .fr (noteD o.fs cl.v), .fr (noteD o.fs th.v), .no]) (s := s) (vs := [5]) (as := (XG.name B 5).as) (tt := (XT.ofE (XE.eq false [] (XE.len [] (XE.call 3 (g_common_values B) [XE.var B 3, XE.var B 4, XE.var B 5] rfl)) (XE.int B 0))).ev) (ee := (XE.var B 5).ev) (enc := D.str) (l := fun x => [(5, .str x)]) (P := fun n => decide (com (va cl.v n) (va th.v n) = [])) (f := D.str) (o.fs.map (·.1))
    (fun _ _ => rfl) (fun _ _ => rfl) (fun x hx => by
      obtain ⟨f, hf, rfl⟩ := List.mem_map.mp hx
      obtain ⟨a, ha, la⟩ := h1 f hf
      obtain ⟨b, hb, lb⟩ := h2 f hf
      simp [common_values ha hb (by omega), va, ha, hb]) (fun x _ _ => by simp)
  simp only [List.map_map] at e
  simp [p_misfits, claim_of hc, thing_of ht, wipeG, hl, show o.fs.length ≤ 100000 by omega, e]
  rfl
def fitB (o : Of) (cl : Cl) (th : Th) : Bool := decide (cl.day ≤ th.day) && decide ((misF o.fs cl.v th.v).length ≤ cl.slips)
theorem fits (hc : getS o.cls c = some cl) (ht : getS o.ths t = some th) (h1 : Has o.fs cl.v) (h2 : Has o.fs th.v) (hl : o.fs.length ≤ 1000) : g_fits B [offD o, .str c, .str t] s = .ret (.bl (fitB o cl th)) s := by
  unfold g_fits
  rw [z_fn]
  by_cases hd : cl.day ≤ th.day
  · simp [p_fits, claim_of hc, thing_of ht, hd, misfits hc ht h1 h2 hl, fitB]
  · simp [p_fits, claim_of hc, thing_of ht, hd, fitB]
end
end Lo

set_option Elab.async false
set_option linter.all false
set_option maxRecDepth 100000
/-! # shared_count -/
namespace Lo
open PySem PySem.Spec PyProof.Rows L2 Evl Dv
/-- one more feature: with so many right, so many wrong values -/
def cstep (r w : Int) (cs : List Int) : List Int := (cs.zip (0 :: cs)).map fun p => r * p.1 + w * p.2
def rgt (lost found : FV) (n : Str) : Int := (com (va lost n) (va found n)).length
def wrg (lost found : FV) (n : Str) : Int := (va found n).length - rgt lost found n
def cnts (lost found : FV) (cs : List Int) : List Str → List Int
  | [] => cs
  | n :: ns => cnts lost found (cstep (rgt lost found n) (wrg lost found n) cs) ns
theorem cstep_len (r w : Int) (cs : List Int) : (cstep r w cs).length = cs.length := by
  unfold cstep
  simp
def scB (B : Bs) : XS B := .seq (.set 7 (.len [] (.call 3 (g_common_values B) [(.at [("Thing", .prop (g_Thing_note B)), ("Claim", .prop (g_Claim_note B))] "note" (.var B 3)), (.var B 4), (.var B 6)] rfl))) (.seq (.set 8 (.op2 (o_subI B) (.len [] (.ix [("Note", g_Note__getitem__ B)] (.var B 4) (.var B 6))) (.var B 7))) (.set 5 (.ofN (.lc (.zip (.var B 5) (.op2 (o_add B) (.ofN (.lst [(.int B 0)])) (.var B 5))) (.tup [(.name B 9), (.name B 10)]) (.yes B) (.op2 (o_add B) (.op2 (o_mul B) (.var B 7) (.var B 9)) (.op2 (o_mul B) (.var B 8) (.var B 10))) [9, 10]))))
section
variable {B : Bs} {s : HS} {n c t : Str} {o : Of} {cl : Cl} {th : Th} {x6 x7 x8 : Sl}
theorem cmul_s {a b : Int} (h1 : -1000000 ≤ a) (h2 : a ≤ 1000000) : CMul a b := .inl ⟨by omega, by omega⟩
theorem sc_el {r w i j : Int} {Γ : Gm} (h1 : CMul r i) (h2 : CMul w j) (e7 : Γ[7]? = some (.fr (.int r))) (e8 : Γ[8]? = some (.fr (.int w))) (e9 : Γ[9]? = some (.fr (.int i))) (e10 : Γ[10]? = some (.fr (.int j))) :
    (XE.op2 (o_add B) (XE.op2 (o_mul B) (XE.var B 7) (XE.var B 9)) (XE.op2 (o_mul B) (XE.var B 8) (XE.var B 10))).ev Γ s = .ret (.int (r * i + w * j)) s := by
  exact ev_op2 (ev_op2 (ev_var e7) (ev_var e9) (f_mul h1)) (ev_op2 (ev_var e8) (ev_var e10) (f_mul h2)) f_add
def scE (B : Bs) : XE B := .op2 (o_add B) (.op2 (o_mul B) (.var B 7) (.var B 9)) (.op2 (o_mul B) (.var B 8) (.var B 10))
theorem sc_lc {r w : Int} {a0 a1 a2 a3 a4 a5 a6 : Sl} (hr : -1000000 ≤ r ∧ r ≤ 1000000) (hw : -1000000 ≤ w ∧ w ≤ 1000000) (ps : List (Int × Int)) :
    lcL (XG.tup [XG.name B 9, XG.name B 10]).as (XT.yes B).ev (scE B).ev [9, 10] [a0, a1, a2, a3, a4, a5, a6, .fr (.int r), .fr (.int w), .no, .no] (ps.map fun p => D.tup false [.int p.1, .int p.2]) s = some ((ps.map fun p => r * p.1 + w * p.2).map D.int, s) := by
  have e := lc_pure (Γ := [a0, a1, a2, a3, a4, a5, a6, .fr (.int r), .fr (.int w), .no, .no]) (s := s) (vs := [9, 10])
    (as := (XG.tup [XG.name B 9, XG.name B 10]).as) (tt := (XT.yes B).ev) (ee := (scE B).ev)
    (enc := fun p : Int × Int => D.tup false [.int p.1, .int p.2]) (l := fun p => [(9, .int p.1), (10, .int p.2)]) (P := fun _ => true) (f := fun p => .int (r * p.1 + w * p.2)) ps
    (fun p _ => rfl) (fun _ _ => rfl) (fun p _ => rfl) (fun p _ _ => sc_el (cmul_s hr.1 hr.2) (cmul_s hw.1 hw.2) rfl rfl rfl rfl)
  rw [e, List.filter_eq_self.mpr fun _ _ => rfl, List.map_map]
  rfl
theorem sc_turn {cs : List Int} {u1 u2 u3 : D} (h1 : ∃ w, getS cl.v n = some w ∧ w.length ≤ 1000) (h2 : ∃ w, getS th.v n = some w ∧ w.length ≤ 1000) (hc : cs.length ≤ 1000) :
    ∃ y7 y8, (scB B).ev [.fr u1, .fr u2, .fr u3, .fr (clD o.fs cl), .fr (noteD o.fs th.v), .fr (.lst (cs.map D.int)), .fr (.str n), x7, x8, .no, .no] s = .nxt [.fr u1, .fr u2, .fr u3, .fr (clD o.fs cl), .fr (noteD o.fs th.v), .fr (.lst ((cstep (rgt cl.v th.v n) (wrg cl.v th.v n) cs).map D.int)), .fr (.str n), y7, y8, .no, .no] s := by
  obtain ⟨a, ha, la⟩ := h1
  obtain ⟨b, hb, lb⟩ := h2
  refine ⟨.fr (.int (rgt cl.v th.v n)), .fr (.int (wrg cl.v th.v n)), ?_⟩
  have hr : rgt cl.v th.v n = ((com a b).length : Nat) := by simp [rgt, va, ha, hb]
  have hw : wrg cl.v th.v n = ((b.length : Nat) : Int) - ((com a b).length : Nat) := by simp [wrg, hr, va, hb]
  have lc : (com a b).length ≤ a.length := List.length_filter_le _ _
  have e := sc_lc (B := B) (s := s) (a0 := .fr u1) (a1 := .fr u2) (a2 := .fr u3) (a3 := .fr (clD o.fs cl)) (a4 := .fr (noteD o.fs th.v)) (a5 := .fr (.lst (cs.map D.int))) (a6 := .fr (.str n)) (r := rgt cl.v th.v n) (w := wrg cl.v th.v n) (by omega) (by omega) (cs.zip (0 :: cs))
  have hz : zipD (cs.map D.int) (D.int 0 :: cs.map D.int) = (cs.zip (0 :: cs)).map fun p => D.tup false [.int p.1, .int p.2] := zipD_map (f := D.int) (k := D.int) cs (0 :: cs)
  have hcat : (o_add B).f (.lst [.int 0]) (.lst (cs.map D.int)) = some (.lst (.int 0 :: cs.map D.int)) := f_cat (by simp; omega)
  unfold scE at e
  rw [hr, hw] at e ⊢
  simp [scB, common_values ha hb (show a.length ≤ 100000 by omega), note_get hb, hcat, hz, wipeG, e, cstep, show cs.length ≤ 100000 by omega]
theorem sc_loop {u1 u2 u3 : D} : ∀ (ns : List Str) (cs : List Int) (x6 x7 x8 : Sl), (∀ n ∈ ns, ∃ w, getS cl.v n = some w ∧ w.length ≤ 1000) → (∀ n ∈ ns, ∃ w, getS th.v n = some w ∧ w.length ≤ 1000) → cs.length ≤ 1000 →
    ∃ y6 y7 y8, forL (XG.name B 6) (scB B).ev (ns.map D.str) [.fr u1, .fr u2, .fr u3, .fr (clD o.fs cl), .fr (noteD o.fs th.v), .fr (.lst (cs.map D.int)), x6, x7, x8, .no, .no] s = .nxt [.fr u1, .fr u2, .fr u3, .fr (clD o.fs cl), .fr (noteD o.fs th.v), .fr (.lst ((cnts cl.v th.v cs ns).map D.int)), y6, y7, y8, .no, .no] s
  | [], cs, x6, x7, x8, _, _, _ => ⟨x6, x7, x8, rfl⟩
  | n :: ns, cs, x6, x7, x8, h1, h2, hc => by
    obtain ⟨y7, y8, e1⟩ := sc_turn (B := B) (s := s) (o := o) (x7 := x7) (x8 := x8) (u1 := u1) (u2 := u2) (u3 := u3) (h1 n (List.mem_cons_self ..)) (h2 n (List.mem_cons_self ..)) hc
    obtain ⟨z6, z7, z8, e2⟩ := sc_loop ns (cstep (rgt cl.v th.v n) (wrg cl.v th.v n) cs) (.fr (.str n)) y7 y8 (fun m hm => h1 m (List.mem_cons_of_mem _ hm)) (fun m hm => h2 m (List.mem_cons_of_mem _ hm)) (by rw [cstep_len]; exact hc)
    exact ⟨z6, z7, z8, (for_cons (l := [(6, .str n)]) rfl e1).trans e2⟩
theorem rep0 {k : Nat} (hs : k ≤ 100) : (o_mul B).f (.lst [.int 0]) (.int ((k : Nat) : Int)) = some (.lst ((List.replicate k (0 : Int)).map D.int)) := by
  rw [f_rep (by omega) (by omega) (by simp; omega)]
  have : ((k : Nat) : Int).toNat = k := by omega
  rw [this]
  clear this hs
  congr 2
  induction k with
  | zero => rfl
  | succ n ih => rw [List.replicate_succ, List.flatten_cons, ih, List.replicate_succ]; rfl
def scF (o : Of) (cl : Cl) (th : Th) : Int := if fitB o cl th = true then (cnts cl.v th.v (1 :: List.replicate cl.slips 0) (o.fs.map (·.1))).sum else 0
theorem shared_count (hc : getS o.cls c = some cl) (ht : getS o.ths t = some th) (h1 : Has o.fs cl.v) (h2 : Has o.fs th.v) (hl : o.fs.length ≤ 1000) (hs : cl.slips ≤ 100) : g_shared_count B [offD o, .str c, .str t] s = .ret (.int (scF o cl th)) s := by
  unfold g_shared_count
  rw [z_fn]
  by_cases hf : fitB o cl th = true
  · have hrep := rep0 (B := B) hs
    have hcat : (o_add B).f (.lst [.int 1]) (.lst ((List.replicate cl.slips (0 : Int)).map D.int)) = some (.lst ((1 :: List.replicate cl.slips (0 : Int)).map D.int)) := f_cat (by simp; omega)
    obtain ⟨y6, y7, y8, e⟩ := sc_loop (B := B) (s := s) (o := o) (cl := cl) (th := th) (u1 := offD o) (u2 := .str c) (u3 := .str t) (o.fs.map (·.1)) (1 :: List.replicate cl.slips 0) .no .no .no (fun n hn => by
      obtain ⟨f, hf, rfl⟩ := List.mem_map.mp hn
      exact h1 f hf) (fun n hn => by
      obtain ⟨f, hf, rfl⟩ := List.mem_map.mp hn
      exact h2 f hf) (by simp; omega)
    have main : (p_shared_count B).ev [.fr (offD o), .fr (.str c), .fr (.str t), .no, .no, .no, .no, .no, .no, .no, .no] s = .ret (.int (cnts cl.v th.v (1 :: List.replicate cl.slips 0) (o.fs.map (·.1))).sum) s := by
      unfold p_shared_count
      refine (ev_seq (Γ1 := [.fr (offD o), .fr (.str c), .fr (.str t), .no, .no, .no, .no, .no, .no, .no, .no]) (s1 := s) ?_).trans ?_
      · simp [fits hc ht h1 h2 hl, hf]
      refine (ev_seq (Γ1 := [.fr (offD o), .fr (.str c), .fr (.str t), .fr (clD o.fs cl), .no, .no, .no, .no, .no, .no, .no]) (s1 := s) ?_).trans ?_
      · simp [claim_of hc]
      refine (ev_seq (Γ1 := [.fr (offD o), .fr (.str c), .fr (.str t), .fr (clD o.fs cl), .fr (noteD o.fs th.v), .no, .no, .no, .no, .no, .no]) (s1 := s) ?_).trans ?_
      · simp [thing_of ht]
      refine (ev_seq (Γ1 := [.fr (offD o), .fr (.str c), .fr (.str t), .fr (clD o.fs cl), .fr (noteD o.fs th.v), .fr (.lst ((1 :: List.replicate cl.slips (0 : Int)).map D.int)), .no, .no, .no, .no, .no]) (s1 := s) ?_).trans ?_
      · have h3 : (XE.at [("Claim", .prop (g_Claim_slips B))] "slips" (XE.var B 3)).ev [.fr (offD o), .fr (.str c), .fr (.str t), .fr (clD o.fs cl), .fr (noteD o.fs th.v), .no, .no, .no, .no, .no, .no] s = .ret (.int ((cl.slips : Nat) : Int)) s := by simp
        exact (ev_set (ev_op2 (s1 := s) (s2 := s) (d := .lst [.int 1]) rfl (ev_op2 (s1 := s) (s2 := s) (d := .lst [.int 0]) rfl h3 hrep) hcat)).trans rfl
      refine (ev_seq (s1 := s) ((z_for).trans (Eq.trans ?_ e))).trans ?_
      · simp [scB]
      · simp
    exact (congrArg Out.res main).trans (by simp [scF, hf])
  · simp [p_shared_count, fits hc ht h1 h2 hl, hf, scF]
end
end Lo

set_option Elab.async false
set_option linter.all false
set_option maxRecDepth 100000
/-! # alike -/
namespace Lo
open PySem PySem.Spec PyProof.Rows L2 Evl Dv
/-- two data that are alike, of a depth below n -/
def Al : Nat → D → D → Prop
  | 0, _, _ => False
  | n + 1, d, e => (∃ x, d = .str x ∧ e = .str x ∧ PyData.strOk x = true) ∨ (∃ i, d = .int i ∧ e = .int i) ∨ (∃ b, d = .bl b ∧ e = .bl b) ∨ (d = .non ∧ e = .non) ∨
    (∃ pl pl' ds es, d = .tup pl ds ∧ e = .tup pl' es ∧ ds.length = es.length ∧ es.length ≤ 10000 ∧ ∀ (i : Nat) (z y : D), ds[i]? = some z → es[i]? = some y → Al n z y) ∨
    ∃ ds es, d = .lst ds ∧ e = .lst es ∧ ds.length = es.length ∧ es.length ≤ 10000 ∧ ∀ (i : Nat) (z y : D), ds[i]? = some z → es[i]? = some y → Al n z y
theorem eqv_str (x : Str) : PyData.eqv (.str x) (.str x) = true := by simp [PyData.eqv]
theorem eqv_int (x : Int) : PyData.eqv (.int x) (.int x) = true := by simp [PyData.eqv]
theorem sh_str {x : Str} (h : PyData.strOk x = true) : SeqAt.shaped (.str x) = true := by
  unfold SeqAt.shaped
  rw [PyData.canLay0, h]
  rfl
theorem eq_str {x : Str} {s : HS} (h : PyData.strOk x = true) : eqE false [] (.str x) (.str x) s = .ret (.bl true) s := by
  show Res.opt (if SeqAt.shaped (.str x) = true ∧ SeqAt.shaped (.str x) = true then some (.bl (PyData.eqv (.str x) (.str x))) else none) s = _
  rw [if_pos ⟨sh_str h, sh_str h⟩, eqv_str]
  exact rfl
theorem eq_int {x : Int} {s : HS} : eqE false [] (.int x) (.int x) s = .ret (.bl true) s := by
  rw [eq_ints]; simp
theorem eq_bl {x : Bool} {s : HS} : eqE false [] (.bl x) (.bl x) s = .ret (.bl true) s := by cases x <;> rfl
theorem ne_bl {x : Bool} {s : HS} : eqE true [] (.bl x) (.bl x) s = .ret (.bl false) s := by cases x <;> rfl
theorem ne_int {x : Int} {s : HS} : eqE true [] (.int x) (.int x) s = .ret (.bl false) s := by
  rw [eq_ints]; simp
theorem at_nat {α : Type} {xs : List α} {i : Nat} {x : α} (h : xs[i]? = some x) : atI xs (i : Nat) = some x := by
  unfold atI ixN
  have hi := (List.getElem?_eq_some_iff.mp h).1
  rw [if_pos (by omega), if_pos (by omega)]
  simpa using h
def lt (B : Bs) (G : Gf) : XT B := .not (.ofE (.call 2 (G) [(.ix [] (.var B 0) (.var B 2)), (.ix [] (.var B 1) (.var B 2))] rfl))
def Seqs (d e : D) (ds es : List D) : Prop := (∃ pl pl', d = .tup pl ds ∧ e = .tup pl' es) ∨ (d = .lst ds ∧ e = .lst es)
theorem lcs_ok {B : Bs} {G : Gf} {d e : D} {ds es : List D} {s : HS} (hd : Seqs d e ds es) (hl : ds.length = es.length) (hG : ∀ (i : Nat) (z y : D), ds[i]? = some z → es[i]? = some y → ∀ s, G [z, y] s = .ret (.bl true) s) : ∀ k i, i + k = es.length →
    lcL (XG.name B 2).as (lt B G).ev (XE.var B 2).ev [2] [.fr d, .fr e, .no] ((List.range' i k).map fun (i : Nat) => D.int (0 + (i : Int))) s = some ([], s)
  | 0, i, _ => rfl
  | k + 1, i, h => by
    have e3 : (List.range' i (k + 1)).map (fun (i : Nat) => D.int (0 + (i : Int))) = D.int (0 + (i : Int)) :: (List.range' (i + 1) k).map fun (i : Nat) => D.int (0 + (i : Int)) := rfl
    rw [e3]
    have hx : ds[i]? = some (ds[i]'(by omega)) := List.getElem?_eq_getElem (by omega)
    have hy : es[i]? = some (es[i]'(by omega)) := List.getElem?_eq_getElem (by omega)
    have ez : (0 + (i : Int)) = ((i : Nat) : Int) := by omega
    refine (lc_skip (l := [(2, .int (0 + (i : Int)))]) rfl rfl (ev_notT (k := true) (ev_ofE (ev_call2 (s1 := s) ?_ ?_ (hG i _ _ hx hy s))))).trans (lcs_ok hd hl hG k (i + 1) (by omega))
    · rcases hd with ⟨pl, pl', rfl, rfl⟩ | ⟨rfl, rfl⟩
      · exact ev_ixT (ev_var rfl) (ev_var rfl) (by rw [ez]; exact at_nat hx)
      · exact ev_ixL (ev_var rfl) (ev_var rfl) (by rw [ez]; exact at_nat hx)
    · rcases hd with ⟨pl, pl', rfl, rfl⟩ | ⟨rfl, rfl⟩
      · exact ev_ixT (ev_var rfl) (ev_var rfl) (by rw [ez]; exact at_nat hy)
      · exact ev_ixL (ev_var rfl) (ev_var rfl) (by rw [ez]; exact at_nat hy)
theorem alike_seq {B : Bs} {G : Gf} {d e : D} {ds es : List D} {s : HS} (hd : Seqs d e ds es) (hln : ds.length = es.length) (hl : es.length ≤ 10000) (hG : ∀ (i : Nat) (z y : D), ds[i]? = some z → es[i]? = some y → ∀ s, G [z, y] s = .ret (.bl true) s) : (p__law_alike B G).ev [.fr d, .fr e, .no] s = .ret (.bl true) s := by
  have k1 : isiE isi_dict e s = .ret (.bl false) s := by rcases hd with ⟨pl, pl', rfl, rfl⟩ | ⟨rfl, rfl⟩ <;> rfl
  have k2 : isiE isi_tuple_list e s = .ret (.bl true) s := by rcases hd with ⟨pl, pl', rfl, rfl⟩ | ⟨rfl, rfl⟩ <;> rfl
  have k2' : isiE isi_tuple_list d s = .ret (.bl true) s := by rcases hd with ⟨pl, pl', rfl, rfl⟩ | ⟨rfl, rfl⟩ <;> rfl
  obtain ⟨bb, k3, k3'⟩ : ∃ bb, isiE isi_list d s = .ret (.bl bb) s ∧ isiE isi_list e s = .ret (.bl bb) s := by rcases hd with ⟨pl, pl', rfl, rfl⟩ | ⟨rfl, rfl⟩ <;> exact ⟨_, rfl, rfl⟩
  have len0 : (XE.len [] (XE.var B 0)).ev [.fr d, .fr e, .no] s = .ret (.int (es.length : Nat)) s := by
    rw [← hln]
    rcases hd with ⟨pl, pl', rfl, rfl⟩ | ⟨rfl, rfl⟩
    · exact ev_lenT (ev_var rfl)
    · exact ev_lenL (ev_var rfl)
  have len1 : (XE.len [] (XE.var B 1)).ev [.fr d, .fr e, .no] s = .ret (.int (es.length : Nat)) s := by
    rcases hd with ⟨pl, pl', rfl, rfl⟩ | ⟨rfl, rfl⟩
    · exact ev_lenT (ev_var rfl)
    · exact ev_lenL (ev_var rfl)
  have e1 : (XS.ite (XT.ofE (XE.isi isi_dict (XE.var B 1))) (XS.nv B) (XS.pass B)).ev [.fr d, .fr e, .no] s = .nxt [.fr d, .fr e, .no] s := ev_iteF (ev_ofE (ev_isi (ev_var rfl) k1))
  unfold p__law_alike
  rw [ev_seq e1]
  have er : rangeD 0 (es.length : Nat) = (List.range' 0 es.length).map fun (i : Nat) => D.int (0 + (i : Int)) := by
    unfold rangeD
    rw [Int.sub_zero, List.range_eq_range', Int.toNat_natCast]
  have e2 : (XE.eq false [] (.ofN (.lc (.range1 (.len [] (.var B 1))) (.name B 2) (lt B G) (.var B 2) [2])) (.ofN (.lst []))).ev [.fr d, .fr e, .no] s = .ret (.bl true) s :=
    ev_eq (ev_lc (ev_range1 len1 (by constructor <;> omega)) (by simp [rangeD]; omega) (by rw [er]; exact lcs_ok hd hln hG es.length 0 (by omega))) (e := .lst []) (s2 := s) rfl rfl
  have body : ∀ {a b : XS B}, (XS.seq (.ite (.ofE (.isiT isi_tuple_list (.var B 1))) (.seq (.ite ((.or (.not (.ofE (.isiT isi_tuple_list (.var B 0)))) (.ofE (.eq true [] (.isi isi_list (.var B 0)) (.isi isi_list (.var B 1)))))) a (.pass B)) (.seq (.ite (.ofE (.eq true [] (.len [] (.var B 0)) (.len [] (.var B 1)))) a (.pass B)) (.ret (.eq false [] (.ofN (.lc (.range1 (.len [] (.var B 1))) (.name B 2) (lt B G) (.var B 2) [2])) (.ofN (.lst [])))))) (.pass B)) b).ev [.fr d, .fr e, .no] s = .ret (.bl true) s := fun {a b} => by
    have i1 := ev_iteT (B := B) (a := (.seq (.ite ((.or (.not (.ofE (.isiT isi_tuple_list (.var B 0)))) (.ofE (.eq true [] (.isi isi_list (.var B 0)) (.isi isi_list (.var B 1)))))) a (.pass B)) (.seq (.ite (.ofE (.eq true [] (.len [] (.var B 0)) (.len [] (.var B 1)))) a (.pass B)) (.ret (.eq false [] (.ofN (.lc (.range1 (.len [] (.var B 1))) (.name B 2) (lt B G) (.var B 2) [2])) (.ofN (.lst []))))))) (b := .pass B) (ev_ofE (ev_isiT (p := XE.var B 1) (Γ := [.fr d, .fr e, .no]) (s := s) (ev_var rfl) k2))
    have i2 := ev_iteF (B := B) (a := a) (b := .pass B) (ev_orF (ev_notT (ev_ofE (ev_isiT (p := XE.var B 0) (Γ := [.fr d, .fr e, .no]) (s := s) (ev_var rfl) k2'))) (ev_ofE (ev_eq (ev_isi (p := XE.var B 0) (ev_var rfl) k3) (ev_isi (p := XE.var B 1) (ev_var rfl) k3') ne_bl)))
    have i3 := ev_iteF (B := B) (a := a) (b := .pass B) (ev_ofE (ev_eq len0 len1 ne_int))
    have i4 := i1.trans ((ev_seq i2).trans ((ev_seq i3).trans (ev_ret e2)))
    show (Out.bind _ _) = _
    exact (congrArg (fun o => Out.bind o _) i4).trans rfl
  exact body
theorem alike_ok {B : Bs} : ∀ (n : Nat) (d e : D) (s : HS), Al n d e → g__law_alike B n [d, e] s = .ret (.bl true) s
  | 0, d, e, s, h => h.elim
  | n + 1, d, e, s, h => by
    have fin : (p__law_alike B (g__law_alike B n)).ev [.fr d, .fr e, .no] s = .ret (.bl true) s → g__law_alike B (n + 1) [d, e] s = .ret (.bl true) s := fun x => by
      show ((p__law_alike B (g__law_alike B n)).ev [.fr d, .fr e, .no] s).res = _
      rw [x]
      exact rfl
    apply fin
    rcases h with ⟨x, rfl, rfl, hx⟩ | ⟨i, rfl, rfl⟩ | ⟨b, rfl, rfl⟩ | ⟨rfl, rfl⟩ | ⟨pl, pl', ds, es, rfl, rfl, hln, hl, hz⟩ | ⟨ds, es, rfl, rfl, hln, hl, hz⟩
    · unfold p__law_alike
      rw [ev_seq (a := XS.ite _ (XS.nv B) (XS.pass B)) (ev_iteF (ev_ofE (ev_isi (ev_var rfl) rfl))), ev_seq (ev_iteF (ev_ofE (ev_isiT (p := XE.var B 1) (ev_var rfl) rfl)))]
      have i1 := ev_iteT (B := B) (a := (.ret ((.and (.eq false [] (.var B 0) (.var B 1)) (.eq false [] (.isi isi_str (.var B 0)) (.isi isi_str (.var B 1))))))) (b := .pass B) (ev_orF (t := .ofE (.op2 (o_isN B) (.var B 1) (.non B))) (Γ := [.fr (.str x), .fr (.str x), .no]) (s := s) (ev_ofE (ev_op2 (ev_var rfl) rfl rfl)) (ev_ofE (ev_isi (f := isi_str) (p := XE.var B 1) (ev_var rfl) rfl)))
      have i2 := i1.trans (ev_ret (ev_andE (ev_eq (ev_var rfl) (ev_var rfl) (eq_str hx)) (ev_eq (ev_isi (p := XE.var B 0) (ev_var rfl) rfl) (ev_isi (p := XE.var B 1) (ev_var rfl) rfl) eq_bl)))
      show (Out.bind _ _) = _
      exact (congrArg (fun o => Out.bind o _) i2).trans rfl
    · unfold p__law_alike
      rw [ev_seq (a := XS.ite _ (XS.nv B) (XS.pass B)) (ev_iteF (ev_ofE (ev_isi (ev_var rfl) rfl))), ev_seq (ev_iteF (ev_ofE (ev_isiT (p := XE.var B 1) (ev_var rfl) rfl)))]
      rw [ev_seq (ev_iteF (ev_orF (t := .ofE (.op2 (o_isN B) (.var B 1) (.non B))) (ev_ofE (ev_op2 (ev_var rfl) rfl rfl)) (ev_ofE (ev_isi (f := isi_str) (p := XE.var B 1) (ev_var rfl) rfl))))]
      exact ev_ret (ev_andE (ev_isi (ev_var rfl) rfl) (ev_andE (ev_eq (ev_isi (p := XE.var B 0) (ev_var rfl) rfl) (ev_isi (p := XE.var B 1) (ev_var rfl) rfl) eq_bl) (ev_eq (ev_var rfl) (ev_var rfl) eq_int)))
    · cases b <;> rfl
    · rfl
    · exact alike_seq (.inl ⟨pl, pl', rfl, rfl⟩) hln hl fun i z y h1 h2 s => alike_ok n z y s (hz i z y h1 h2)
    · exact alike_seq (.inr ⟨rfl, rfl⟩) hln hl fun i z y h1 h2 s => alike_ok n z y s (hz i z y h1 h2)
/-- the same data are alike -/
theorem al_str {n : Nat} {x : Str} (h : PyData.strOk x = true) : Al (n + 1) (.str x) (.str x) := .inl ⟨x, rfl, rfl, h⟩
theorem al_int {n : Nat} {i : Int} : Al (n + 1) (.int i) (.int i) := .inr (.inl ⟨i, rfl, rfl⟩)
theorem al_bl {n : Nat} {i : Bool} : Al (n + 1) (.bl i) (.bl i) := .inr (.inr (.inl ⟨i, rfl, rfl⟩))
theorem al_lst {n : Nat} {ds : List D} (hl : ds.length ≤ 10000) (h : ∀ z ∈ ds, Al n z z) : Al (n + 1) (.lst ds) (.lst ds) := .inr (.inr (.inr (.inr (.inr ⟨ds, ds, rfl, rfl, rfl, hl, fun i z y h1 h2 => by
  rw [h1] at h2
  cases h2
  exact h z (List.mem_of_getElem? h1)⟩))))
theorem al_tup {n : Nat} {pl pl' : Bool} {ds : List D} (hl : ds.length ≤ 10000) (h : ∀ z ∈ ds, Al n z z) : Al (n + 1) (.tup pl ds) (.tup pl' ds) := .inr (.inr (.inr (.inr (.inl ⟨pl, pl', ds, ds, rfl, rfl, rfl, hl, fun i z y h1 h2 => by
  rw [h1] at h2
  cases h2
  exact h z (List.mem_of_getElem? h1)⟩))))
def Sok (w : List Str) : Prop := ∀ x ∈ w, PyData.strOk x = true
theorem al_strs {n : Nat} {w : List Str} (h : Sok w) (hl : w.length ≤ 10000) : Al (n + 2) (.lst (w.map D.str)) (.lst (w.map D.str)) := al_lst (by rw [List.length_map]; exact hl) fun z hz => by
  obtain ⟨x, hx, rfl⟩ := List.mem_map.mp hz
  exact al_str (h x hx)
end Lo

set_option Elab.async false
set_option linter.all false
set_option maxRecDepth 100000
/-! # The law's own words on what fits -/
namespace Lo
open PySem PySem.Spec PyProof.Rows L2 Evl Dv
/-! ### texts compared -/
theorem pds_strs : ∀ w : List Str, pds (w.map D.str) = some (w.map PyData.str)
  | [] => rfl
  | a :: r => by
    show (match pd (D.str a) with
      | some x => match pds (r.map D.str) with
        | some xs => some (x :: xs)
        | none => none
      | none => none) = _
    rw [pds_strs r]
    rfl
theorem eqvAll_strs : ∀ a b : List Str, PyData.eqvAll (a.map PyData.str) (b.map PyData.str) = decide (a = b)
  | [], [] => by simp [PyData.eqvAll]
  | [], _ :: _ => by simp [PyData.eqvAll]
  | _ :: _, [] => by simp [PyData.eqvAll]
  | x :: a, y :: b => by
    rw [List.map_cons, List.map_cons, PyData.eqvAll, eqvAll_strs a b]
    by_cases h : x = y
    · subst h
      simp [PyData.eqv]
    · simp [PyData.eqv, h]
theorem lay_strs : ∀ {w : List Str}, Sok w → PyData.canLayAll0 (w.map PyData.str) = true ∧ PyData.depthAll (w.map PyData.str) = 0
  | [], _ => by simp [PyData.canLayAll0, PyData.depthAll]
  | a :: r, h => by
    obtain ⟨h1, h2⟩ := lay_strs (w := r) fun x hx => h x (List.mem_cons_of_mem _ hx)
    have h3 := h a (List.mem_cons_self ..)
    rw [List.map_cons]
    simp [PyData.canLayAll0, PyData.depthAll, PyData.depth, PyData.canLay0, h1, h2, h3]
theorem shL {w : List Str} (h : Sok w) : SeqAt.shaped (.list (w.map PyData.str)) = true := by
  obtain ⟨h1, h2⟩ := lay_strs h
  unfold SeqAt.shaped
  rw [PyData.canLay0, PyData.depth, h1, Bool.true_and, decide_eq_true_eq, h2]
  omega
theorem shT {w : List Str} (h : Sok w) : SeqAt.shaped (.tuple (w.map PyData.str)) = true := by
  obtain ⟨h1, h2⟩ := lay_strs h
  unfold SeqAt.shaped
  rw [PyData.canLay0, PyData.depth, h1, Bool.true_and, decide_eq_true_eq, h2]
  omega
section
variable {s : HS} {neg pl pl' : Bool} {a b : List Str} {x y : Str}
theorem eq_lsts (ha : Sok a) (hb : Sok b) : eqE neg [] (.lst (a.map D.str)) (.lst (b.map D.str)) s = .ret (.bl (if neg then !decide (a = b) else decide (a = b))) s := by
  have p1 : pd (.lst (a.map D.str)) = some (.list (a.map PyData.str)) := by
    show (pds (a.map D.str)).map PyData.list = _
    rw [pds_strs]
    rfl
  have p2 : pd (.lst (b.map D.str)) = some (.list (b.map PyData.str)) := by
    show (pds (b.map D.str)).map PyData.list = _
    rw [pds_strs]
    rfl
  show Res.opt (eqF neg (.lst (a.map D.str)) (.lst (b.map D.str))) s = _
  unfold eqF
  rw [p1, p2]
  dsimp only
  rw [if_pos ⟨shL ha, shL hb⟩, PyData.eqv, eqvAll_strs]
  rfl
theorem eq_tups (ha : Sok a) (hb : Sok b) : eqE neg [] (.tup pl (a.map D.str)) (.tup pl' (b.map D.str)) s = .ret (.bl (if neg then !decide (a = b) else decide (a = b))) s := by
  have p1 : pd (.tup pl (a.map D.str)) = some (.tuple (a.map PyData.str)) := by
    show (pds (a.map D.str)).map PyData.tuple = _
    rw [pds_strs]
    rfl
  have p2 : pd (.tup pl' (b.map D.str)) = some (.tuple (b.map PyData.str)) := by
    show (pds (b.map D.str)).map PyData.tuple = _
    rw [pds_strs]
    rfl
  show Res.opt (eqF neg (.tup pl (a.map D.str)) (.tup pl' (b.map D.str))) s = _
  unfold eqF
  rw [p1, p2]
  dsimp only
  rw [if_pos ⟨shT ha, shT hb⟩, PyData.eqv, eqvAll_strs]
  rfl
theorem eq_wD (ha : Sok a) (hb : Sok b) : eqE neg [] (wD a) (wD b) s = .ret (.bl (if neg then !decide (a = b) else decide (a = b))) s := eq_tups ha hb
theorem eq_nil (ha : Sok a) : eqE neg [] (.lst (a.map D.str)) (.lst []) s = .ret (.bl (if neg then !decide (a = []) else decide (a = []))) s := eq_lsts (b := []) ha (fun _ h => nomatch h)
theorem eq_bls {p q : Bool} : eqE neg [] (.bl p) (.bl q) s = .ret (.bl (if neg then !decide (p = q) else decide (p = q))) s := by
  cases neg <;> cases p <;> cases q <;> rfl
end
/-! ### what was drawn -/
def dthD (t : Th) : D := .tup true [.dic true (t.v.map (encK wD)), .int t.day]
def dclD (c : Cl) : D := .tup true [.dic true (c.v.map (encK wD)), .int c.day, .int (c.slips : Nat), .int c.worth]
def ftD (fs : FV) : D := .tup true (fs.map fD)
def dths (o : Of) : D := .dic true (o.ths.map (encK dthD))
def dcls (o : Of) : D := .dic true (o.cls.map (encK dclD))
def drD (o : Of) : D := .tup true [ftD o.fs, dths o, dcls o]
section
variable {B : Bs} {s : HS} {hs : Hd} {n x c t : Str} {w a b : List Str} {o : Of} {cl : Cl} {th : Th} {vs fs : FV}
@[simp] theorem dr0 : ixE hs (drD o) (.int 0) s = .ret (ftD o.fs) s := rfl
@[simp] theorem dr1 : ixE hs (drD o) (.int 1) s = .ret (dths o) s := rfl
@[simp] theorem dr2 : ixE hs (drD o) (.int 2) s = .ret (dcls o) s := rfl
@[simp] theorem dth0 : ixE hs (dthD th) (.int 0) s = .ret (.dic true (th.v.map (encK wD))) s := rfl
@[simp] theorem dth1 : ixE hs (dthD th) (.int 1) s = .ret (.int th.day) s := rfl
@[simp] theorem dcl0 : ixE hs (dclD cl) (.int 0) s = .ret (.dic true (cl.v.map (encK wD))) s := rfl
@[simp] theorem dcl1 : ixE hs (dclD cl) (.int 1) s = .ret (.int cl.day) s := rfl
@[simp] theorem dcl2 : ixE hs (dclD cl) (.int 2) s = .ret (.int (cl.slips : Nat)) s := rfl
@[simp] theorem dcl3 : ixE hs (dclD cl) (.int 3) s = .ret (.int cl.worth) s := rfl
theorem ix_enc {α : Type} {f : α → D} {l : List (Str × α)} {v : α} (h : getS l x = some v) : ixE hs (.dic true (l.map (encK f))) (.str x) s = .ret (f v) s := by
  simp [lookK_enc, h]
theorem ix_dths (h : getS o.ths x = some th) : ixE hs (dths o) (.str x) s = .ret (dthD th) s := ix_enc h
theorem ix_dcls (h : getS o.cls x = some cl) : ixE hs (dcls o) (.str x) s = .ret (dclD cl) s := ix_enc h
@[simp] theorem walk_ft : walkOf (ftD fs) = some (fs.map fD) := rfl
def HasS (fs vs : FV) : Prop := ∀ f ∈ fs, ∃ w, getS vs f.1 = some w ∧ w.length ≤ 1000 ∧ Sok w
theorem HasS.has (h : HasS fs vs) : Has fs vs := fun f hf => let ⟨w, h1, h2, _⟩ := h f hf; ⟨w, h1, h2⟩
theorem Sok.filter {p : Str → Bool} (h : Sok w) : Sok (w.filter p) := fun x hx => h x (List.mem_filter.mp hx).1
theorem law_apart (hc : getS o.cls c = some cl) (ht : getS o.ths t = some th) (h1 : HasS o.fs cl.v) (h2 : HasS o.fs th.v) (hl : o.fs.length ≤ 1000) : g__law_apart B [drD o, .str c, .str t] s = .ret (.lst ((misF o.fs cl.v th.v).map D.str)) s := by
  unfold g__law_apart
  rw [z_fn]
  have inner : ∀ f ∈ o.fs, ∀ (x5 x6 : Sl), lcL (XG.name B 7).as (XT.ofE (XE.in false [] (XE.var B 7) (XE.ix [] (XE.var B 4) (XE.var B 5)))).ev (XE.var B 7).ev [7] [.fr (drD o), .fr (.str c), .fr (.str t), .fr (.dic true (cl.v.map (encK wD))), .fr (.dic true (th.v.map (encK wD))), .fr (.str f.1), x6, .no] ((va cl.v f.1).map D.str) s = some ((com (va cl.v f.1) (va th.v f.1)).map D.str, s) := fun f hf x5 x6 => by
    obtain ⟨b, hb, _, _⟩ := h2 f hf
    have e := lc_pure (Γ := [.fr (drD o), .fr (.str c), .fr (.str t), .fr (.dic true (cl.v.map (encK wD))), .fr (.dic true (th.v.map (encK wD))), .fr (.str f.1), x6, .no]) (s := s) (vs := [7]) (as := (XG.name B 7).as) (tt := (XT.ofE (XE.in false [] (XE.var B 7) (XE.ix [] (XE.var B 4) (XE.var B 5)))).ev) (ee := (XE.var B 7).ev) (enc := D.str) (l := fun x => [(7, .str x)]) (P := fun x => decide (x ∈ va th.v f.1)) (f := D.str) (va cl.v f.1)
      (fun _ _ => rfl) (fun _ _ => rfl) (fun x _ => by simp [lookK_enc, hb, va]) (fun x _ _ => by simp)
    exact e
  have e := lc_pure (Γ := [.fr (drD o), .fr (.str c), .fr (.str t), .fr (.dic true (cl.v.map (encK wD))), .fr (.dic true (th.v.map (encK wD))), .no, .no, .no]) (s := s) (vs := [5, 6]) (as := (XG.tup [XG.name B 5, XG.name B 6]).as)
    (tt := (XT.ofE (XE.eq false [] (XE.ofN (XN.lc (XI.wk (XE.ix [] (XE.var B 3) (XE.var B 5))) (XG.name B 7) (XT.ofE (XE.in false [] (XE.var B 7) (XE.ix [] (XE.var B 4) (XE.var B 5)))) (XE.var B 7) [7])) (XE.ofN (XN.lst [])))).ev) (ee := (XE.var B 5).ev) (enc := fD) (l := fun f => [(5, .str f.1), (6, wD f.2)]) (P := fun f => decide (com (va cl.v f.1) (va th.v f.1) = [])) (f := fun f => .str f.1) o.fs
    (fun f _ => by simp [fD]) (fun _ _ => rfl) (fun f hf => by
      obtain ⟨a, ha, la, sa⟩ := h1 f hf
      have hi := inner f hf .no (.fr (wD f.2))
      have hva : va cl.v f.1 = a := by simp [va, ha]
      rw [hva] at hi
      have hs : Sok (com a (va th.v f.1)) := sa.filter
      simp [lookK_enc, ha, wipeG, hi, show a.length ≤ 100000 by omega, eq_nil hs, hva])
    (fun f _ _ => by simp)
  have hm : (o.fs.filter fun f => decide (com (va cl.v f.1) (va th.v f.1) = [])).map (fun f => D.str f.1) = (misF o.fs cl.v th.v).map D.str := by
    unfold misF
    rw [List.filter_map, List.map_map]
    rfl
  simp [p__law_apart, ix_dcls hc, ix_dths ht, wipeG, e, hm, show o.fs.length ≤ 100000 by omega]
def canB (o : Of) (cl : Cl) (th : Th) : Bool := fitB o cl th
theorem law_can (hc : getS o.cls c = some cl) (ht : getS o.ths t = some th) (h1 : HasS o.fs cl.v) (h2 : HasS o.fs th.v) (hl : o.fs.length ≤ 1000) : g__law_can B [drD o, .str c, .str t] s = .ret (.bl (fitB o cl th)) s := by
  unfold g__law_can
  rw [z_fn]
  by_cases hd : cl.day ≤ th.day
  · simp [p__law_can, ix_dcls hc, ix_dths ht, law_apart hc ht h1 h2 hl, show ¬ th.day < cl.day by omega, fitB, hd]
  · simp [p__law_can, ix_dcls hc, ix_dths ht, show th.day < cl.day by omega, fitB, hd]
end
end Lo

set_option Elab.async false
set_option linter.all false
set_option maxRecDepth 100000
/-! # The law's own count of shared descriptions -/
namespace Lo
open PySem PySem.Spec PyProof.Rows L2 Evl Dv
def ext (rows : List (List Str)) (ws : List Str) : List (List Str) := rows.flatMap fun r => ws.map fun w => r ++ [w]
def rws (ls : List (List Str)) : List (List Str) := ls.foldl ext [[]]
def rowD (r : List Str) : D := .tup r.isEmpty (r.map D.str)
def wr (r : List Str) (cs : List (List Str)) : Nat := ((r.zip cs).filter fun p => decide (p.1 ∉ p.2)).length
theorem ext_len (rows : List (List Str)) (ws : List Str) : (ext rows ws).length = rows.length * ws.length := by
  unfold ext
  induction rows with
  | nil => simp
  | cons r rows ih => rw [List.flatMap_cons, List.length_append, ih, List.length_map, List.length_cons, Nat.add_mul]; omega
section
variable {B : Bs} {s : HS} {n c t : Str} {o : Of} {cl : Cl} {th : Th}
/-- the words of a row grow -/
theorem sh_row {a0 a1 a2 a3 a4 a5 a6 a8 a9 a10 : Sl} {r ws : List Str} (hr : r.length ≤ 1000) :
    lcL (XG.name B 11).as (XT.yes B).ev (XE.op2 (o_add B) (XE.var B 7) (XE.tup [XE.var B 11])).ev [11] [a0, a1, a2, a3, a4, a5, a6, .fr (rowD r), a8, a9, a10, .no, .no] (ws.map D.str) s = some ((ws.map fun w => r ++ [w]).map rowD, s) := by
  have e := lc_pure (Γ := [a0, a1, a2, a3, a4, a5, a6, .fr (rowD r), a8, a9, a10, .no, .no]) (s := s) (vs := [11]) (as := (XG.name B 11).as) (tt := (XT.yes B).ev) (ee := (XE.op2 (o_add B) (XE.var B 7) (XE.tup [XE.var B 11])).ev) (enc := D.str) (l := fun x => [(11, .str x)]) (P := fun _ => true) (f := fun w => rowD (r ++ [w])) ws
    (fun _ _ => rfl) (fun _ _ => rfl) (fun _ _ => rfl) (fun x _ _ => by
      have h : (o_add B).f (rowD r) (.tup true [.str x]) = some (rowD (r ++ [x])) := by
        unfold rowD
        rw [f_catT (by simp; omega)]
        simp
      simp [h])
  rw [e, List.filter_eq_self.mpr fun _ _ => rfl, List.map_map]
  rfl
def shB (B : Bs) : XS B := .set 6 (.op2 (o_add B) (.var B 6) (.ofN (.lc (.wk (.ix [] (.ix [] (.ix [] (.ix [] (.var B 0) (.int B 1)) (.var B 2)) (.int B 0)) (.var B 4))) (.name B 11) (.yes B) (.op2 (o_add B) (.var B 7) (.tup [(.var B 11)])) [11])))
theorem sh_turn {a1 a3 a5 a8 a9 a10 : Sl} {r ws : List Str} {acc : List (List Str)} (ht : getS o.ths t = some th) (hw : getS th.v n = some ws) (hr : r.length ≤ 1000) (hl : ws.length ≤ 1000) (ha : acc.length ≤ 90000) :
    (shB B).ev [.fr (drD o), a1, .fr (.str t), a3, .fr (.str n), a5, .fr (.lst (acc.map rowD)), .fr (rowD r), a8, a9, a10, .no, .no] s = .nxt [.fr (drD o), a1, .fr (.str t), a3, .fr (.str n), a5, .fr (.lst ((acc ++ ws.map fun w => r ++ [w]).map rowD)), .fr (rowD r), a8, a9, a10, .no, .no] s := by
  have e := sh_row (B := B) (s := s) (a0 := .fr (drD o)) (a1 := a1) (a2 := .fr (.str t)) (a3 := a3) (a4 := .fr (.str n)) (a5 := a5) (a6 := .fr (.lst (acc.map rowD))) (a8 := a8) (a9 := a9) (a10 := a10) (ws := ws) hr
  have hcat : (o_add B).f (.lst (acc.map rowD)) (.lst ((ws.map fun w => r ++ [w]).map rowD)) = some (.lst ((acc ++ ws.map fun w => r ++ [w]).map rowD)) := by
    rw [f_cat (by simp; omega), List.map_append]
  have h2 : (XE.ofN (XN.lc (XI.wk (XE.ix [] (XE.ix [] (XE.ix [] (XE.ix [] (XE.var B 0) (XE.int B 1)) (XE.var B 2)) (XE.int B 0)) (XE.var B 4))) (XG.name B 11) (XT.yes B) (XE.op2 (o_add B) (XE.var B 7) (XE.tup [XE.var B 11])) [11])).ev [.fr (drD o), a1, .fr (.str t), a3, .fr (.str n), a5, .fr (.lst (acc.map rowD)), .fr (rowD r), a8, a9, a10, .no, .no] s = .ret (.lst ((ws.map fun w => r ++ [w]).map rowD)) s := by
    simp only [z_ofN, z_lc, z_wk, z_ix, z_var, z_cst]
    simp [ix_dths ht, lookK_enc, hw, wipeG, show ws.length ≤ 100000 by omega]
    rw [e]
    simp
  exact (ev_set (ev_op2 (s1 := s) (s2 := s) (d := .lst (acc.map rowD)) rfl h2 hcat)).trans rfl
theorem sh_inner {a1 a3 a5 a8 a9 a10 : Sl} {ws : List Str} (ht : getS o.ths t = some th) (hw : getS th.v n = some ws) (hl : ws.length ≤ 1000) : ∀ (rows acc : List (List Str)) (x7 : Sl), (∀ r ∈ rows, r.length ≤ 1000) → acc.length + rows.length * ws.length ≤ 80000 →
    ∃ y7, forL (XG.name B 7) (shB B).ev (rows.map rowD) [.fr (drD o), a1, .fr (.str t), a3, .fr (.str n), a5, .fr (.lst (acc.map rowD)), x7, a8, a9, a10, .no, .no] s = .nxt [.fr (drD o), a1, .fr (.str t), a3, .fr (.str n), a5, .fr (.lst ((acc ++ ext rows ws).map rowD)), y7, a8, a9, a10, .no, .no] s
  | [], acc, x7, _, _ => ⟨x7, by simp [ext]⟩
  | r :: rows, acc, x7, hr, ha => by
    rw [List.length_cons, Nat.add_mul] at ha
    have e1 := sh_turn (B := B) (s := s) (a1 := a1) (a3 := a3) (a5 := a5) (a8 := a8) (a9 := a9) (a10 := a10) (acc := acc) ht hw (hr r (List.mem_cons_self ..)) hl (by omega)
    obtain ⟨y7, e2⟩ := sh_inner ht hw hl rows (acc ++ ws.map fun w => r ++ [w]) (.fr (rowD r)) (fun r' h' => hr r' (List.mem_cons_of_mem _ h')) (by simp; omega)
    refine ⟨y7, (for_cons (l := [(7, rowD r)]) rfl e1).trans ?_⟩
    rw [e2, List.append_assoc]
    rfl
def shO (B : Bs) : XS B := .seq (.set 6 (.ofN (.lst []))) (.seq (.for (.wk (.var B 3)) (.name B 7) (shB B)) (.set 3 (.var B 6)))
theorem rws_len : ∀ (ls : List (List Str)) (rows : List (List Str)) (k : Nat), (∀ r ∈ rows, r.length = k) → ∀ r ∈ ls.foldl ext rows, r.length = k + ls.length
  | [], rows, k, h, r, hr => by simpa using h r hr
  | w :: ls, rows, k, h, r, hr => by
    have := rws_len ls (ext rows w) (k + 1) (fun r' h' => by
      unfold ext at h'
      obtain ⟨q, hq, h2⟩ := List.mem_flatMap.mp h'
      obtain ⟨x, _, rfl⟩ := List.mem_map.mp h2
      rw [List.length_append, h q hq]
      rfl) r hr
    rw [this, List.length_cons]
    omega
theorem sh_outer {a1 a8 a9 a10 : Sl} (ht : getS o.ths t = some th) : ∀ (fs : FV) (rows : List (List Str)) (x4 x5 x6 x7 : Sl) (k : Nat), (∀ f ∈ fs, ∃ w, getS th.v f.1 = some w ∧ w.length ≤ 5) → (∀ r ∈ rows, r.length = k) → k + fs.length ≤ 6 → rows.length * 5 ^ fs.length ≤ 16000 →
    ∃ y4 y5 y6 y7, forL (XG.tup [XG.name B 4, XG.name B 5]) (shO B).ev (fs.map fD) [.fr (drD o), a1, .fr (.str t), .fr (.lst (rows.map rowD)), x4, x5, x6, x7, a8, a9, a10, .no, .no] s = .nxt [.fr (drD o), a1, .fr (.str t), .fr (.lst (((fs.map fun f => va th.v f.1).foldl ext rows).map rowD)), y4, y5, y6, y7, a8, a9, a10, .no, .no] s
  | [], rows, x4, x5, x6, x7, k, _, _, _, _ => ⟨x4, x5, x6, x7, rfl⟩
  | f :: fs, rows, x4, x5, x6, x7, k, hf, hr, hk, hn => by
    obtain ⟨ws, hw, hl⟩ := hf f (List.mem_cons_self ..)
    rw [List.length_cons] at hk hn
    have hp : 0 < 5 ^ fs.length := Nat.pos_of_ne_zero (by simp)
    have hrow : rows.length * 5 ≤ 16000 := by
      rw [Nat.pow_succ] at hn
      have : rows.length * 5 * 1 ≤ rows.length * 5 * 5 ^ fs.length := Nat.mul_le_mul_left _ hp
      have e : rows.length * 5 * 5 ^ fs.length = rows.length * (5 ^ fs.length * 5) := by rw [Nat.mul_assoc, Nat.mul_comm 5]
      omega
    have hext : rows.length * ws.length ≤ rows.length * 5 := Nat.mul_le_mul_left _ hl
    obtain ⟨y7, e1⟩ := sh_inner (B := B) (s := s) (a1 := a1) (a3 := .fr (.lst (rows.map rowD))) (a5 := .fr (wD f.2)) (a8 := a8) (a9 := a9) (a10 := a10) ht hw (by omega) rows [] x7 (fun r h => by rw [hr r h]; omega) (by simp; omega)
    have e2 : (shO B).ev [.fr (drD o), a1, .fr (.str t), .fr (.lst (rows.map rowD)), .fr (.str f.1), .fr (wD f.2), x6, x7, a8, a9, a10, .no, .no] s = .nxt [.fr (drD o), a1, .fr (.str t), .fr (.lst ((ext rows ws).map rowD)), .fr (.str f.1), .fr (wD f.2), .fr (.lst ((ext rows ws).map rowD)), y7, a8, a9, a10, .no, .no] s := by
      unfold shO
      refine (ev_seq (Γ1 := [.fr (drD o), a1, .fr (.str t), .fr (.lst (rows.map rowD)), .fr (.str f.1), .fr (wD f.2), .fr (.lst []), x7, a8, a9, a10, .no, .no]) (s1 := s) rfl).trans ?_
      refine (ev_seq (s1 := s) ((z_for).trans (Eq.trans ?_ e1))).trans ?_
      · simp
      · simp
    obtain ⟨z4, z5, z6, z7, e3⟩ := sh_outer (a1 := a1) (a8 := a8) (a9 := a9) (a10 := a10) ht fs (ext rows ws) (.fr (.str f.1)) (.fr (wD f.2)) (.fr (.lst ((ext rows ws).map rowD))) y7 (k + 1) (fun g hg => hf g (List.mem_cons_of_mem _ hg)) (fun r h => by
        unfold ext at h
        obtain ⟨q, hq, h2⟩ := List.mem_flatMap.mp h
        obtain ⟨x, _, rfl⟩ := List.mem_map.mp h2
        rw [List.length_append, hr q hq]
        rfl) (by omega) (by
        rw [ext_len]
        rw [Nat.pow_succ] at hn
        have h1 : rows.length * ws.length * 5 ^ fs.length ≤ rows.length * 5 * 5 ^ fs.length := Nat.mul_le_mul_right _ hext
        have e : rows.length * 5 * 5 ^ fs.length = rows.length * (5 ^ fs.length * 5) := by rw [Nat.mul_assoc, Nat.mul_comm 5]
        omega)
    refine ⟨z4, z5, z6, z7, (for_cons (l := [(4, .str f.1), (5, wD f.2)]) rfl e2).trans ?_⟩
    have hva : va th.v f.1 = ws := by simp [va, hw]
    rw [e3, List.map_cons, List.foldl_cons, hva]
/-- where a row is wrong -/
theorem wr_idx : ∀ (r : List Str) (cs : List (List Str)) (i : Nat), r.length = cs.length →
    ((List.range' i r.length).filter fun k => decide (r.getD (k - i) "" ∉ cs.getD (k - i) [])).length = wr r cs
  | [], cs, i, _ => by simp [wr]
  | x :: r, [], i, h => by simp at h
  | x :: r, c :: cs, i, h => by
    have ih := wr_idx r cs (i + 1) (by simpa using h)
    rw [List.length_cons, List.range'_succ]
    have e : ((List.range' (i + 1) r.length).filter fun k => decide ((x :: r).getD (k - i) "" ∉ (c :: cs).getD (k - i) [])) = ((List.range' (i + 1) r.length).filter fun k => decide (r.getD (k - (i + 1)) "" ∉ cs.getD (k - (i + 1)) [])) := by
      refine List.filter_congr fun k hk => ?_
      have hk2 : i + 1 ≤ k := (List.mem_range'_1.mp hk).1
      obtain ⟨m, rfl⟩ : ∃ m, k = i + 1 + m := ⟨k - (i + 1), by omega⟩
      have e1 : i + 1 + m - i = m + 1 := by omega
      have e2 : i + 1 + m - (i + 1) = m := by omega
      rw [e1, e2, List.getD_cons_succ, List.getD_cons_succ]
    unfold wr at ih ⊢
    rw [List.zip_cons_cons]
    by_cases hx : x ∈ c
    · rw [List.filter_cons_of_neg (by simp [hx]), List.filter_cons_of_neg (by simp [hx]), e, ih]
    · rw [List.filter_cons_of_pos (by simp [hx]), List.filter_cons_of_pos (by simp [hx]), List.length_cons, List.length_cons, e, ih]
theorem getD_at {α : Type} {f : α → D} {xs : List α} {d : α} {k : Nat} (h : k < xs.length) : atI (xs.map f) (k : Nat) = some (f (xs.getD k d)) := by
  refine at_nat ?_
  rw [List.getElem?_map, List.getElem?_eq_getElem h, List.getD_eq_getElem?_getD, List.getElem?_eq_getElem h]
  rfl
theorem wr_row {a0 a1 a2 a3 a4 a5 a6 a9 a10 : Sl} {r : List Str} {cs : List (List Str)} (h : r.length = cs.length) (hl : r.length ≤ 1000) :
    ∃ ks : List D, ks.length = wr r cs ∧ lcL (XG.name B 12).as (XT.ofE (XE.in true [] (XE.ix [] (XE.var B 7) (XE.var B 12)) (XE.ix [] (XE.var B 8) (XE.var B 12)))).ev (XE.var B 12).ev [12] [a0, a1, a2, a3, a4, a5, a6, .fr (rowD r), .fr (.lst (cs.map wD)), a9, a10, .no, .no] (rangeD 0 (r.length : Nat)) s = some (ks, s) := by
  refine ⟨((List.range' 0 r.length).filter fun k => decide (r.getD (k - 0) "" ∉ cs.getD (k - 0) [])).map fun (k : Nat) => D.int (0 + (k : Int)), by rw [List.length_map, wr_idx r cs 0 h], ?_⟩
  have er : rangeD 0 (r.length : Nat) = (List.range' 0 r.length).map fun (i : Nat) => D.int (0 + (i : Int)) := by
    unfold rangeD
    rw [Int.sub_zero, List.range_eq_range', Int.toNat_natCast]
  rw [er]
  refine lc_pure (enc := fun (i : Nat) => D.int (0 + (i : Int))) (l := fun k => [(12, .int (0 + (k : Int)))]) (P := fun k => decide (r.getD (k - 0) "" ∉ cs.getD (k - 0) [])) (f := fun (k : Nat) => D.int (0 + (k : Int))) (List.range' 0 r.length) (fun _ _ => rfl) (fun _ _ => rfl) (fun k hk => ?_) (fun k _ _ => by simp)
  have hk2 : k < r.length := by have := (List.mem_range'_1.mp hk).2; omega
  have ez : (0 + (k : Int)) = ((k : Nat) : Int) := by omega
  have h1 : ixE [] (rowD r) (.int ((k : Nat) : Int)) s = .ret (.str (r.getD k "")) s := by
    unfold rowD
    simp [getD_at (f := D.str) (d := "") hk2]
  have h2 : atI (cs.map wD) ((k : Nat) : Int) = some (wD (cs[k]?.getD [])) := by
    have := getD_at (f := wD) (d := []) (xs := cs) (k := k) (by omega)
    simpa using this
  simp only [z_setG, z_setG0, List.set_cons_succ, List.set_cons_zero, ez, Nat.sub_zero]
  simp [h1, h2]
def gdB (B : Bs) : XS B := .seq (.set 10 (.ofN (.lc (.range1 (.len [] (.var B 7))) (.name B 12) (.ofE (.in true [] (.ix [] (.var B 7) (.var B 12)) (.ix [] (.var B 8) (.var B 12)))) (.var B 12) [12]))) (.set 9 (.op2 (o_add B) (.var B 9) (.blt (o_int B) [(.op2 (o_le B) (.len [] (.var B 10)) (.ix [] (.ix [] (.ix [] (.var B 0) (.int B 2)) (.var B 1)) (.int B 2)))])))
def good (slips : Nat) (cs : List (List Str)) (r : List Str) : Bool := decide (wr r cs ≤ slips)
theorem gd_turn {a2 a3 a4 a5 a6 a10 : Sl} {r : List Str} {cs : List (List Str)} {g : Int} (hc : getS o.cls c = some cl) (h : r.length = cs.length) (hl : r.length ≤ 1000) :
    ∃ y10, (gdB B).ev [.fr (drD o), .fr (.str c), a2, a3, a4, a5, a6, .fr (rowD r), .fr (.lst (cs.map wD)), .fr (.int g), a10, .no, .no] s = .nxt [.fr (drD o), .fr (.str c), a2, a3, a4, a5, a6, .fr (rowD r), .fr (.lst (cs.map wD)), .fr (.int (g + if good cl.slips cs r = true then 1 else 0)), y10, .no, .no] s := by
  obtain ⟨ks, hk, e⟩ := wr_row (B := B) (s := s) (a0 := .fr (drD o)) (a1 := .fr (.str c)) (a2 := a2) (a3 := a3) (a4 := a4) (a5 := a5) (a6 := a6) (a9 := .fr (.int g)) (a10 := a10) h hl
  refine ⟨.fr (.lst ks), ?_⟩
  have hlen : lenE [] (rowD r) s = .ret (.int (r.length : Nat)) s := by
    unfold rowD
    rw [z_lenT, List.length_map]
  unfold gdB
  refine (ev_seq (Γ1 := [.fr (drD o), .fr (.str c), a2, a3, a4, a5, a6, .fr (rowD r), .fr (.lst (cs.map wD)), .fr (.int g), .fr (.lst ks), .no, .no]) (s1 := s) ?_).trans ?_
  · refine (ev_set (ev_lc (s1 := s) (ds := rangeD 0 (r.length : Nat)) (ev_range1 (k := (r.length : Nat)) ?_ ?_) (by simp [rangeD]; omega) e)).trans rfl
    · simp [hlen]
    · constructor <;> omega
  · have hg : decide (((wr r cs : Nat) : Int) ≤ (cl.slips : Nat)) = good cl.slips cs r := by
      unfold good
      by_cases q : wr r cs ≤ cl.slips
      · rw [decide_eq_true q, decide_eq_true (by omega)]
      · rw [decide_eq_false q, decide_eq_false (by omega)]
    simp only [z_set, z_op2, z_blt, z_evs, z_evs0, z_var, z_ix, z_len, z_cst, List.getElem?_cons_succ, List.getElem?_cons_zero, z_get, z_bind, z_lenL, dr2, ix_dcls hc, dcl2, f_le, z_opt, f_intB, f_add, z_out, hk, hg]
    rfl
theorem gd_loop {a2 a3 a4 a5 a6 : Sl} {cs : List (List Str)} (hc : getS o.cls c = some cl) : ∀ (rows : List (List Str)) (g : Int) (x7 x10 : Sl), (∀ r ∈ rows, r.length = cs.length ∧ r.length ≤ 1000) →
    ∃ y7 y10, forL (XG.name B 7) (gdB B).ev (rows.map rowD) [.fr (drD o), .fr (.str c), a2, a3, a4, a5, a6, x7, .fr (.lst (cs.map wD)), .fr (.int g), x10, .no, .no] s = .nxt [.fr (drD o), .fr (.str c), a2, a3, a4, a5, a6, y7, .fr (.lst (cs.map wD)), .fr (.int (g + ((rows.filter (good cl.slips cs)).length : Nat))), y10, .no, .no] s
  | [], g, x7, x10, _ => ⟨x7, x10, by simp⟩
  | r :: rows, g, x7, x10, h => by
    obtain ⟨h1, h2⟩ := h r (List.mem_cons_self ..)
    obtain ⟨y10, e1⟩ := gd_turn (B := B) (s := s) (a2 := a2) (a3 := a3) (a4 := a4) (a5 := a5) (a6 := a6) (a10 := x10) (g := g) hc h1 h2
    obtain ⟨z7, z10, e2⟩ := gd_loop (a2 := a2) (a3 := a3) (a4 := a4) (a5 := a5) (a6 := a6) hc rows (g + if good cl.slips cs r = true then 1 else 0) (.fr (rowD r)) y10 fun q hq => h q (List.mem_cons_of_mem _ hq)
    have e0 : forL (XG.name B 7) (gdB B).ev ((r :: rows).map rowD) [.fr (drD o), .fr (.str c), a2, a3, a4, a5, a6, x7, .fr (.lst (cs.map wD)), .fr (.int g), x10, .no, .no] s = forL (XG.name B 7) (gdB B).ev (rows.map rowD) [.fr (drD o), .fr (.str c), a2, a3, a4, a5, a6, .fr (rowD r), .fr (.lst (cs.map wD)), .fr (.int (g + if good cl.slips cs r = true then 1 else 0)), y10, .no, .no] s := by
      rw [List.map_cons]
      exact for_cons (l := [(7, rowD r)]) rfl e1
    refine ⟨z7, z10, e0.trans ?_⟩
    rw [e2]
    by_cases hg : good cl.slips cs r = true
    · rw [if_pos hg, List.filter_cons_of_pos hg, List.length_cons]
      have : g + 1 + ((rows.filter (good cl.slips cs)).length : Nat) = g + (((rows.filter (good cl.slips cs)).length + 1 : Nat) : Int) := by omega
      rw [this]
    · rw [if_neg hg, List.filter_cons_of_neg hg, Int.add_zero]
end
end Lo

set_option Elab.async false
set_option linter.all false
set_option maxRecDepth 100000
/-! # Both counts are equal -/
namespace Lo
open PySem PySem.Spec PyProof.Rows L2 Evl Dv
theorem wr_snoc : ∀ {r : List Str} {cs : List (List Str)} {w : Str} {c : List Str}, r.length = cs.length → wr (r ++ [w]) (cs ++ [c]) = wr r cs + if w ∈ c then 0 else 1 := fun {r cs w c} h => by
  unfold wr
  rw [List.zip_append h, List.filter_append, List.length_append]
  by_cases hw : w ∈ c
  · simp [hw]
  · simp [hw]
def Nk (R : List (List Str)) (C : List (List Str)) (k : Nat) : Nat := (R.filter fun r => decide (wr r C = k)).length
theorem com_none {a b : List Str} : com a b = [] ↔ ∀ x ∈ b, x ∉ a := by
  unfold com
  rw [List.filter_eq_nil_iff]
  constructor
  · intro h x hb ha
    exact h x ha (by simpa using hb)
  · intro h x ha hb
    exact h x (by simpa using hb) ha
theorem com_comm {a b : List Str} (ha : a.Nodup) (hb : b.Nodup) : (com a b).length = (com b a).length := by
  refine List.Perm.length_eq ?_
  refine (List.perm_ext_iff_of_nodup (ha.filter _) (hb.filter _)).mpr fun x => ?_
  simp only [List.mem_filter, decide_eq_true_eq]
  exact And.comm
/-- rows grow by the words of one feature -/
theorem Nk_ext {C : List (List Str)} {ws c : List Str} {k : Nat} : ∀ (R : List (List Str)), (∀ r ∈ R, r.length = C.length) →
    Nk (ext R ws) (C ++ [c]) k = (com ws c).length * Nk R C k + (ws.length - (com ws c).length) * (if k = 0 then 0 else Nk R C (k - 1))
  | [], _ => by simp [Nk, ext]
  | r :: R, h => by
    have ih := Nk_ext (C := C) (ws := ws) (c := c) (k := k) R fun q hq => h q (List.mem_cons_of_mem _ hq)
    have hr := h r (List.mem_cons_self ..)
    have one : ∀ vs : List Str, ((vs.map fun w => r ++ [w]).filter fun q => decide (wr q (C ++ [c]) = k)).length = (if wr r C = k then (com vs c).length else 0) + (if k ≠ 0 ∧ wr r C = k - 1 then vs.length - (com vs c).length else 0) := fun vs => by
      induction vs with
      | nil => simp [com]
      | cons w vs ihv =>
        have hle : (com vs c).length ≤ vs.length := List.length_filter_le _ _
        rw [List.map_cons, List.filter_cons]
        have hs := wr_snoc (w := w) (c := c) hr
        by_cases hw : w ∈ c
        · rw [if_pos hw, Nat.add_zero] at hs
          have hc : (com (w :: vs) c).length = (com vs c).length + 1 := by simp [com, hw]
          rw [hs, hc, List.length_cons]
          by_cases hk : wr r C = k
          · simp only [hk, decide_true, if_true, List.length_cons, ihv]
            by_cases h2 : k ≠ 0 ∧ k = k - 1
            · omega
            · rw [if_neg h2, if_neg h2]
          · simp only [hk, decide_false, if_false, Bool.false_eq_true, ihv]
            by_cases h2 : k ≠ 0 ∧ wr r C = k - 1
            · rw [if_pos h2, if_pos h2]; omega
            · rw [if_neg h2, if_neg h2]
        · rw [if_neg hw] at hs
          have hc : (com (w :: vs) c).length = (com vs c).length := by simp [com, hw]
          rw [hs, hc, List.length_cons]
          by_cases hk : wr r C + 1 = k
          · have h3 : wr r C ≠ k := by omega
            have h4 : k ≠ 0 ∧ wr r C = k - 1 := by omega
            simp only [hk, decide_true, if_true, List.length_cons, ihv]
            rw [if_neg h3, if_pos h4, if_pos h4]
            omega
          · simp only [hk, decide_false, if_false, Bool.false_eq_true, ihv]
            have h4 : ¬ (k ≠ 0 ∧ wr r C = k - 1) := by omega
            rw [if_neg h4, if_neg h4]
    have e1 : Nk (ext (r :: R) ws) (C ++ [c]) k = ((ws.map fun w => r ++ [w]).filter fun q => decide (wr q (C ++ [c]) = k)).length + Nk (ext R ws) (C ++ [c]) k := by
      unfold Nk ext
      rw [List.flatMap_cons, List.filter_append, List.length_append]
    have e2 : ∀ j, Nk (r :: R) C j = (if wr r C = j then 1 else 0) + Nk R C j := fun j => by
      unfold Nk
      rw [List.filter_cons]
      by_cases hj : wr r C = j
      · simp [hj]; omega
      · simp [hj]
    rw [e1, one, ih, e2, e2]
    by_cases hk : wr r C = k
    · rw [if_pos hk, if_pos hk]
      by_cases h0 : k = 0
      · simp [h0, Nat.mul_add]
      · have : ¬ (k ≠ 0 ∧ wr r C = k - 1) := by omega
        have h6 : ¬ wr r C = k - 1 := by omega
        rw [if_neg this, if_neg h6, if_neg h0, if_neg h0, Nat.mul_add, Nat.mul_add]
        omega
    · rw [if_neg hk, if_neg hk]
      by_cases h0 : k = 0
      · simp [h0]
      · by_cases h6 : wr r C = k - 1
        · rw [if_pos ⟨h0, h6⟩, if_pos h6, if_neg h0, if_neg h0, Nat.mul_add, Nat.mul_add]
          omega
        · have : ¬ (k ≠ 0 ∧ wr r C = k - 1) := fun z => h6 z.2
          rw [if_neg this, if_neg h6, if_neg h0, if_neg h0, Nat.mul_add, Nat.mul_add]
          omega
def Ns (R C : List (List Str)) (n : Nat) : List Int := (List.range n).map fun k => ((Nk R C k : Nat) : Int)
theorem zip_shift {f : Nat → Int} : ∀ n, ((List.range n).map f).zip (0 :: (List.range n).map f) = (List.range n).map fun k => (f k, if k = 0 then 0 else f (k - 1)) := fun n => by
  refine List.ext_getElem (by simp) fun i h1 h2 => ?_
  rw [List.getElem_zip]
  cases i with
  | zero => simp
  | succ i => simp
theorem cstep_Ns {R C : List (List Str)} {ws c : List Str} {n : Nat} (h : ∀ r ∈ R, r.length = C.length) :
    cstep ((com ws c).length : Nat) ((ws.length : Nat) - ((com ws c).length : Nat) : Int) (Ns R C n) = Ns (ext R ws) (C ++ [c]) n := by
  unfold cstep Ns
  rw [zip_shift, List.map_map]
  refine List.map_congr_left fun k _ => ?_
  rw [Nk_ext R h]
  have hle : (com ws c).length ≤ ws.length := List.length_filter_le _ _
  have e : ((ws.length : Nat) : Int) - ((com ws c).length : Nat) = ((ws.length - (com ws c).length : Nat) : Int) := by omega
  rw [e]
  by_cases h0 : k = 0
  · simp [h0]
  · simp [h0]
theorem Ns_start (n : Nat) : Ns [[]] [] (n + 1) = 1 :: List.replicate n 0 := by
  unfold Ns
  rw [List.range_succ_eq_map, List.map_cons, List.map_map]
  congr 1
  refine List.ext_getElem (by simp) fun i h1 h2 => ?_
  simp [Nk, wr]
theorem Ns_sum {R C : List (List Str)} : ∀ n, (Ns R C (n + 1)).sum = ((R.filter (good n C)).length : Nat)
  | 0 => by
    have : (R.filter fun r => decide (wr r C = 0)) = R.filter (good 0 C) := List.filter_congr fun r _ => by unfold good; simp
    simp [Ns, Nk, this]
  | n + 1 => by
    have ih := Ns_sum (R := R) (C := C) n
    have e : Ns R C (n + 1 + 1) = Ns R C (n + 1) ++ [((Nk R C (n + 1) : Nat) : Int)] := by
      unfold Ns
      rw [List.range_succ, List.map_append]
      rfl
    have h : ∀ R : List (List Str), (R.filter (good (n + 1) C)).length = (R.filter (good n C)).length + Nk R C (n + 1) := fun R => by
      unfold Nk
      induction R with
      | nil => rfl
      | cons r R ihR =>
        rw [List.filter_cons, List.filter_cons, List.filter_cons]
        by_cases h1 : wr r C ≤ n
        · have h2 : good (n + 1) C r = true := by unfold good; simp; omega
          have h3 : good n C r = true := by unfold good; simp; omega
          have h4 : decide (wr r C = n + 1) = false := by simp; omega
          rw [h2, h3, h4]
          simp [ihR]
          omega
        · by_cases h5 : wr r C = n + 1
          · have h2 : good (n + 1) C r = true := by unfold good; simp; omega
            have h3 : good n C r = false := by unfold good; simp; omega
            rw [h2, h3]
            simp [ihR, h5]
            omega
          · have h2 : good (n + 1) C r = false := by unfold good; simp; omega
            have h3 : good n C r = false := by unfold good; simp; omega
            rw [h2, h3]
            simp [ihR, h5]
    rw [e, List.sum_append, ih, h R]
    simp
/-- the program's counts are the numbers of rows -/
theorem cnts_Ns {lost found : FV} {n : Nat} : ∀ (ns : List Str) (R C : List (List Str)), (∀ m ∈ ns, (va lost m).Nodup ∧ (va found m).Nodup) → (∀ r ∈ R, r.length = C.length) →
    cnts lost found (Ns R C n) ns = Ns ((ns.map (va found)).foldl ext R) (C ++ ns.map (va lost)) n
  | [], R, C, _, _ => by simp [cnts]
  | m :: ns, R, C, h, hR => by
    obtain ⟨h1, h2⟩ := h m (List.mem_cons_self ..)
    have e : cstep (rgt lost found m) (wrg lost found m) (Ns R C n) = Ns (ext R (va found m)) (C ++ [va lost m]) n := by
      rw [← cstep_Ns hR]
      unfold wrg rgt
      rw [com_comm h1 h2]
    rw [cnts, e, cnts_Ns ns (ext R (va found m)) (C ++ [va lost m]) (fun q hq => h q (List.mem_cons_of_mem _ hq)) (fun r hr => by
      unfold ext at hr
      obtain ⟨q, hq, h3⟩ := List.mem_flatMap.mp hr
      obtain ⟨x, _, rfl⟩ := List.mem_map.mp h3
      rw [List.length_append, hR q hq, List.length_append]
      rfl)]
    rw [List.map_cons, List.map_cons, List.foldl_cons, List.append_assoc]
    rfl
/-- the fewest that are wrong -/
theorem least {lost found : FV} : ∀ (ns : List Str) (R C : List (List Str)) (m : Nat), (∀ q ∈ ns, va found q ≠ []) → (∀ r ∈ R, r.length = C.length ∧ m ≤ wr r C) → (∃ r ∈ R, wr r C = m) →
    (∀ r ∈ (ns.map (va found)).foldl ext R, r.length = (C ++ ns.map (va lost)).length ∧ m + (ns.filter fun q => decide (com (va lost q) (va found q) = [])).length ≤ wr r (C ++ ns.map (va lost))) ∧
      ∃ r ∈ (ns.map (va found)).foldl ext R, wr r (C ++ ns.map (va lost)) = m + (ns.filter fun q => decide (com (va lost q) (va found q) = [])).length
  | [], R, C, m, _, h1, h2 => by simpa using ⟨h1, h2⟩
  | q :: ns, R, C, m, hne, h1, h2 => by
    have hlen : ∀ r ∈ ext R (va found q), ∃ p ∈ R, ∃ w ∈ va found q, r = p ++ [w] := fun r hr => by
      unfold ext at hr
      obtain ⟨p, hp, h3⟩ := List.mem_flatMap.mp hr
      obtain ⟨x, hx, rfl⟩ := List.mem_map.mp h3
      exact ⟨p, hp, x, hx, rfl⟩
    have mem : ∀ p ∈ R, ∀ w ∈ va found q, p ++ [w] ∈ ext R (va found q) := fun p hp w hw => List.mem_flatMap.mpr ⟨p, hp, List.mem_map.mpr ⟨w, hw, rfl⟩⟩
    by_cases hc : com (va lost q) (va found q) = []
    · have hn := com_none.mp hc
      obtain ⟨r0, hr0, e0⟩ := h2
      obtain ⟨w0, hw0⟩ := List.exists_mem_of_ne_nil _ (hne q (List.mem_cons_self ..))
      obtain ⟨k1, r, hr, k2⟩ := least (lost := lost) (found := found) ns (ext R (va found q)) (C ++ [va lost q]) (m + 1) (fun x hx => hne x (List.mem_cons_of_mem _ hx)) (fun r hr => by
        obtain ⟨p, hp, w, hw, rfl⟩ := hlen r hr
        obtain ⟨l1, l2⟩ := h1 p hp
        rw [wr_snoc l1, if_neg (hn w hw), List.length_append, List.length_append, l1]
        exact ⟨rfl, by omega⟩) ⟨r0 ++ [w0], mem r0 hr0 w0 hw0, by rw [wr_snoc (h1 r0 hr0).1, if_neg (hn w0 hw0), e0]⟩
      have e1 : (C ++ [va lost q]) ++ ns.map (va lost) = C ++ (q :: ns).map (va lost) := by rw [List.append_assoc]; rfl
      have e2 : ((q :: ns).filter fun q => decide (com (va lost q) (va found q) = [])).length = (ns.filter fun q => decide (com (va lost q) (va found q) = [])).length + 1 := by rw [List.filter_cons_of_pos (by simpa using hc)]; rfl
      rw [e1] at k1 k2
      rw [e2]
      exact ⟨fun r hr => ⟨(k1 r hr).1, by have := (k1 r hr).2; omega⟩, r, hr, by rw [k2]; omega⟩
    · obtain ⟨x, hx⟩ := List.exists_mem_of_ne_nil _ hc
      have hx1 : x ∈ va lost q ∧ x ∈ va found q := by
        unfold com at hx
        simpa using List.mem_filter.mp hx
      obtain ⟨r0, hr0, e0⟩ := h2
      obtain ⟨k1, r, hr, k2⟩ := least (lost := lost) (found := found) ns (ext R (va found q)) (C ++ [va lost q]) m (fun x hx => hne x (List.mem_cons_of_mem _ hx)) (fun r hr => by
        obtain ⟨p, hp, w, hw, rfl⟩ := hlen r hr
        obtain ⟨l1, l2⟩ := h1 p hp
        rw [wr_snoc l1, List.length_append, List.length_append, l1]
        exact ⟨rfl, by omega⟩) ⟨r0 ++ [x], mem r0 hr0 x hx1.2, by rw [wr_snoc (h1 r0 hr0).1, if_pos hx1.1, e0]; rfl⟩
      have e1 : (C ++ [va lost q]) ++ ns.map (va lost) = C ++ (q :: ns).map (va lost) := by rw [List.append_assoc]; rfl
      have e2 : ((q :: ns).filter fun q => decide (com (va lost q) (va found q) = [])).length = (ns.filter fun q => decide (com (va lost q) (va found q) = [])).length := by rw [List.filter_cons_of_neg (by simpa using hc)]
      rw [e1] at k1 k2
      rw [e2]
      exact ⟨k1, r, hr, k2⟩
def shF (o : Of) (cl : Cl) (th : Th) : Int := if cl.day ≤ th.day then (((rws (o.fs.map fun f => va th.v f.1)).filter (good cl.slips (o.fs.map fun f => va cl.v f.1))).length : Nat) else 0
structure Vok (fs vs : FV) : Prop where
  nd : ∀ f ∈ fs, (va vs f.1).Nodup
  ne : ∀ f ∈ fs, va vs f.1 ≠ []
theorem sh_eq {o : Of} {cl : Cl} {th : Th} (h1 : Vok o.fs cl.v) (h2 : Vok o.fs th.v) : scF o cl th = shF o cl th ∧ (0 < shF o cl th ↔ fitB o cl th = true) := by
  have hm : (o.fs.map fun f => va th.v f.1) = (o.fs.map (·.1)).map (va th.v) := by rw [List.map_map]; rfl
  have hm2 : (o.fs.map fun f => va cl.v f.1) = (o.fs.map (·.1)).map (va cl.v) := by rw [List.map_map]; rfl
  have hcn := cnts_Ns (lost := cl.v) (found := th.v) (n := cl.slips + 1) (o.fs.map (·.1)) [[]] [] (fun m hm => by
    obtain ⟨f, hf, rfl⟩ := List.mem_map.mp hm
    exact ⟨h1.nd f hf, h2.nd f hf⟩) (fun r hr => by rw [List.mem_singleton.mp hr]; rfl)
  obtain ⟨k1, r, hr, k2⟩ := least (lost := cl.v) (found := th.v) (o.fs.map (·.1)) [[]] [] 0 (fun m hm => by
    obtain ⟨f, hf, rfl⟩ := List.mem_map.mp hm
    exact h2.ne f hf) (fun r hr => by rw [List.mem_singleton.mp hr]; exact ⟨rfl, Nat.zero_le _⟩) ⟨[], by simp, rfl⟩
  rw [Ns_start, List.nil_append] at hcn
  rw [List.nil_append] at k1 k2
  have hmis : ((o.fs.map (·.1)).filter fun q => decide (com (va cl.v q) (va th.v q) = [])).length = (misF o.fs cl.v th.v).length := rfl
  rw [hmis, Nat.zero_add] at k2
  have k1' : ∀ r ∈ rws ((o.fs.map (·.1)).map (va th.v)), (misF o.fs cl.v th.v).length ≤ wr r ((o.fs.map (·.1)).map (va cl.v)) := fun r hr => by
    have := (k1 r hr).2
    rw [hmis, Nat.zero_add] at this
    exact this
  unfold scF shF
  rw [hm, hm2]
  by_cases hd : cl.day ≤ th.day
  · rw [if_pos hd]
    by_cases hs : (misF o.fs cl.v th.v).length ≤ cl.slips
    · have hf : fitB o cl th = true := by unfold fitB; simp [hd, hs]
      rw [if_pos hf, hcn, Ns_sum]
      refine ⟨rfl, fun _ => hf, fun _ => ?_⟩
      have : r ∈ (rws ((o.fs.map (·.1)).map (va th.v))).filter (good cl.slips ((o.fs.map (·.1)).map (va cl.v))) := List.mem_filter.mpr ⟨hr, decide_eq_true (by omega)⟩
      have := List.length_pos_of_mem this
      omega
    · have hf : ¬ fitB o cl th = true := by unfold fitB; simp [hs]
      have h0 : (rws ((o.fs.map (·.1)).map (va th.v))).filter (good cl.slips ((o.fs.map (·.1)).map (va cl.v))) = [] := List.filter_eq_nil_iff.mpr fun q hq => by
        have := k1' q hq
        exact fun z => by
          have := of_decide_eq_true z
          omega
      rw [if_neg hf, h0]
      simp [hf]
  · have hf : ¬ fitB o cl th = true := by unfold fitB; simp [hd]
    rw [if_neg hd, if_neg hf]
    simp [hf]
end Lo

set_option Elab.async false
set_option linter.all false
set_option maxRecDepth 100000
/-! # The law's own count is that number -/
namespace Lo
open PySem PySem.Spec PyProof.Rows L2 Evl Dv
section
variable {B : Bs} {s : HS} {n c t : Str} {o : Of} {cl : Cl} {th : Th}
def shC (B : Bs) : XE B := .ofN (.lc (.wk (.ix [] (.var B 0) (.int B 0))) (.tup [(.name B 4), (.name B 5)]) (.yes B) (.ix [] (.ix [] (.ix [] (.ix [] (.var B 0) (.int B 2)) (.var B 1)) (.int B 0)) (.var B 4)) [4, 5])
theorem sh_cs {a2 a3 a4 a5 a6 a7 a8 a9 a10 : Sl} (hc : getS o.cls c = some cl) (h1 : HasS o.fs cl.v) (hl : o.fs.length ≤ 6) :
    (shC B).ev [.fr (drD o), .fr (.str c), a2, a3, a4, a5, a6, a7, a8, a9, a10, .no, .no] s = .ret (.lst ((o.fs.map fun f => va cl.v f.1).map wD)) s := by
  have e := lc_pure (Γ := [.fr (drD o), .fr (.str c), a2, a3, .no, .no, a6, a7, a8, a9, a10, .no, .no]) (s := s) (vs := [4, 5]) (as := (XG.tup [XG.name B 4, XG.name B 5]).as) (tt := (XT.yes B).ev)
    (ee := (XE.ix [] (XE.ix [] (XE.ix [] (XE.ix [] (XE.var B 0) (XE.int B 2)) (XE.var B 1)) (XE.int B 0)) (XE.var B 4)).ev) (enc := fD) (l := fun f => [(4, .str f.1), (5, wD f.2)]) (P := fun _ => true) (f := fun f => wD (va cl.v f.1)) o.fs
    (fun f _ => by simp [fD]) (fun _ _ => rfl) (fun f _ => rfl) (fun f hf _ => by
      obtain ⟨a, ha, _, _⟩ := h1 f hf
      simp [ix_dcls hc, lookK_enc, ha, va])
  have hm : (o.fs.filter fun _ => true).map (fun f => wD (va cl.v f.1)) = (o.fs.map fun f => va cl.v f.1).map wD := by
    rw [List.filter_eq_self.mpr fun _ _ => rfl, List.map_map]
    rfl
  unfold shC
  rw [hm] at e
  simp [wipeG, e, show o.fs.length ≤ 100000 by omega]
theorem law_shared (hc : getS o.cls c = some cl) (ht : getS o.ths t = some th) (h1 : HasS o.fs cl.v) (h2 : ∀ f ∈ o.fs, ∃ w, getS th.v f.1 = some w ∧ w.length ≤ 5) (hl : o.fs.length ≤ 6) : g__law_shared B [drD o, .str c, .str t] s = .ret (.int (shF o cl th)) s := by
  unfold g__law_shared
  rw [z_fn]
  obtain ⟨y4, y5, y6, y7, e1⟩ := sh_outer (B := B) (s := s) (o := o) (a1 := .fr (.str c)) (a8 := .no) (a9 := .no) (a10 := .no) ht o.fs [[]] .no .no .no .no 0 h2 (fun r hr => by rw [List.mem_singleton.mp hr]; rfl) (by omega) (by
    have : 5 ^ o.fs.length ≤ 5 ^ 6 := Nat.pow_le_pow_right (by decide) hl
    have e : (5 : Nat) ^ 6 = 15625 := by decide
    simp
    omega)
  have hrl : ∀ r ∈ rws (o.fs.map fun f => va th.v f.1), r.length = (o.fs.map fun f => va cl.v f.1).length ∧ r.length ≤ 1000 := fun r hr => by
    have := rws_len (o.fs.map fun f => va th.v f.1) [[]] 0 (fun r hr => by rw [List.mem_singleton.mp hr]; rfl) r (by unfold rws at hr; exact hr)
    rw [this, Nat.zero_add, List.length_map, List.length_map]
    exact ⟨rfl, by omega⟩
  obtain ⟨z7, z10, e2⟩ := gd_loop (B := B) (s := s) (o := o) (c := c) (a2 := .fr (.str t)) (a3 := .fr (.lst ((rws (o.fs.map fun f => va th.v f.1)).map rowD))) (a4 := y4) (a5 := y5) (a6 := y6) (cs := o.fs.map fun f => va cl.v f.1) hc (rws (o.fs.map fun f => va th.v f.1)) 0 y7 .no hrl
  have main : (p__law_shared B).ev [.fr (drD o), .fr (.str c), .fr (.str t), .no, .no, .no, .no, .no, .no, .no, .no, .no, .no] s = .ret (.int (shF o cl th)) s := by
    unfold p__law_shared
    refine (ev_seq (Γ1 := [.fr (drD o), .fr (.str c), .fr (.str t), .fr (.lst ([[]].map rowD)), .no, .no, .no, .no, .no, .no, .no, .no, .no]) (s1 := s) rfl).trans ?_
    refine (ev_seq (s1 := s) ((z_for).trans (Eq.trans ?_ e1))).trans ?_
    · simp only [z_wk, z_ix, z_var, z_cst, z_get, z_bind, List.getElem?_cons_zero, dr0, walk_ft, z_outL]
      rfl
    have e3 := sh_cs (B := B) (s := s) (c := c) (a2 := .fr (.str t)) (a3 := .fr (.lst ((rws (o.fs.map fun f => va th.v f.1)).map rowD))) (a4 := y4) (a5 := y5) (a6 := y6) (a7 := y7) (a8 := .no) (a9 := .no) (a10 := .no) hc h1 hl
    have e4 : (XS.asg (.tup [(.name B 8), (.name B 9)]) (.tup [shC B, (.int B 0)])).ev [.fr (drD o), .fr (.str c), .fr (.str t), .fr (.lst ((rws (o.fs.map fun f => va th.v f.1)).map rowD)), y4, y5, y6, y7, .no, .no, .no, .no, .no] s = .nxt [.fr (drD o), .fr (.str c), .fr (.str t), .fr (.lst ((rws (o.fs.map fun f => va th.v f.1)).map rowD)), y4, y5, y6, y7, .fr (.lst ((o.fs.map fun f => va cl.v f.1).map wD)), .fr (.int 0), .no, .no, .no] s := by
      simp only [z_asg, z_tup, z_evs, z_evs0, e3, z_bind, z_cst, z_out, z_gtup, z_ass, z_ass0, Option.map_some, z_setG, z_setG0, List.set_cons_succ, List.set_cons_zero]
    refine (ev_seq (s1 := s) e4).trans ?_
    refine (ev_seq (s1 := s) ((z_for).trans (Eq.trans ?_ e2))).trans ?_
    · simp only [z_wk, z_var, z_get, z_bind, List.getElem?_cons_zero, List.getElem?_cons_succ, z_wkL, z_outL]
      rfl
    by_cases hd : cl.day ≤ th.day
    · simp [ix_dcls hc, ix_dths ht, hd, shF]
    · simp [ix_dcls hc, ix_dths ht, hd, shF]
  exact congrArg Out.res main
end
end Lo

set_option Elab.async false
set_option linter.all false
set_option maxRecDepth 100000
namespace Lo
open PySem PySem.Spec PyProof.Rows L2 Evl Dv
theorem at_emod {α : Type} {xs : List α} {k : Int} (h0 : 0 ≤ k) (h1 : k < xs.length) : ∃ x, atI xs k = some x ∧ xs[k.toNat]? = some x ∧ ixN xs.length k = some k.toNat := by
  have e : ixN xs.length k = some k.toNat := by
    unfold ixN
    rw [if_pos h0, if_pos h1]
  have hlt : k.toNat < xs.length := by omega
  refine ⟨xs[k.toNat], ?_, List.getElem?_eq_getElem hlt, e⟩
  unfold atI
  rw [e]
  exact List.getElem?_eq_getElem hlt
theorem mod_f {B : Bs} {i j : Int} (h : 0 < j) : (o_modI B).f (.int i) (.int j) = some (.int (i % j)) := if_pos h
theorem div_f {B : Bs} {i j : Int} (h : CDiv i j) : (o_divI B).f (.int i) (.int j) = some (.int (i / j)) := if_pos h
theorem mul_f {B : Bs} {i j : Int} (h : CMul i j) : (o_mul B).f (.int i) (.int j) = some (.int (i * j)) := f_mul h
theorem pow_f {B : Bs} {i j : Int} (h : CPow i j) : (o_powI B).f (.int i) (.int j) = some (.int (i ^ j.toNat)) := if_pos h
theorem next_ok {B : Bs} {n : Int} {s : HS} (h0 : 0 < n) (h1 : n < 1073741824) (hl : s.cells.length ≤ 63) :
    ∃ v s', g__law_next B [.hnd, .int n] s = .ret (.int v) s' ∧ 0 ≤ v ∧ v < n ∧ s'.cells.length = s.cells.length := by
  have hl2 : s.cells.length + 1 ≤ 100000 := by omega
  let m : Int := if (s.cells.length : Int) > 1 then (s.cells.length : Int) else 1
  have hm : 0 < m := by show 0 < (if (s.cells.length : Int) > 1 then (s.cells.length : Int) else 1); split <;> omega
  have hm2 : m ≤ (s.cells.length : Int) + 1 := by show (if (s.cells.length : Int) > 1 then (s.cells.length : Int) else 1) ≤ _; split <;> omega
  have k0 : 0 ≤ s.ix % m := Int.emod_nonneg _ (by omega)
  have k1 : s.ix % m < m := Int.emod_lt_of_pos _ hm
  obtain ⟨x, a1, a2, a3⟩ := at_emod (xs := (s.cells ++ [0]).map D.int) k0 (by simp; omega)
  obtain ⟨y, b1, b2, b3⟩ := at_emod (xs := s.cells ++ [0]) k0 (by simp; omega)
  have hx : x = .int y := by
    rw [List.getElem?_map, b2] at a2
    exact (Option.some.inj a2).symm
  subst hx
  have e1 : (XE.ix [] (XE.hcat B 0) (XE.op2 (o_modI B) (XE.blt (o_int B) [XE.h2 B 0]) (XE.blt (o_max2 B) [XE.int B 1, XE.hlen B 0]))).ev [.fr .hnd, .fr (.int n), .no] s = .ret (.int y) s :=
    ev_ixL (ev_hcat rfl hl2) (ev_op2 (ev_blt1 (ev_h2 rfl) rfl) (ev_blt2 rfl (ev_hlen rfl) rfl) (mod_f hm)) a1
  have hev : ∃ v s', (p__law_next B).ev [.fr .hnd, .fr (.int n), .no] s = .ret (.int v) s' ∧ 0 ≤ v ∧ v < n ∧ s'.cells.length = s.cells.length := by
    unfold p__law_next
    rw [ev_seq (ev_set (i := 2) e1)]
    have hp : CPow 10 18 := ⟨by decide, by decide, by decide⟩
    by_cases hc : (10 : Int) ^ 18 ≤ y
    · have t1 : (XT.ofE (XE.op2 (o_geI B) (XE.var B 2) (XE.op2 (o_powI B) (XE.int B 10) (XE.int B 18)))).ev [.fr .hnd, .fr (.int n), .fr (.int y)] s = .ret (.bl true) s :=
        ev_ofE (ev_op2 (ev_var rfl) (ev_op2 rfl rfl (pow_f hp)) (by show some (D.bl (decide ((10 : Int) ^ 18 ≤ y))) = _; rw [decide_eq_true hc]))
      have hlen : 0 < s.cells.length := by
        rcases Nat.eq_zero_or_pos s.cells.length with z | z
        · exfalso
          have hnil : s.cells = [] := List.eq_nil_of_length_eq_zero z
          rw [hnil] at b2
          have : (s.ix % m).toNat = 0 := by
            rcases Nat.eq_zero_or_pos (s.ix % m).toNat with z2 | z2
            · exact z2
            · rw [List.getElem?_eq_none (by show 1 ≤ _; exact z2)] at b2; cases b2
          rw [this] at b2
          cases b2
          exact absurd hc (by decide)
        · exact z
      have hlI : (0 : Int) < (s.cells.length : Nat) := by omega
      obtain ⟨w, c1, c2, c3⟩ := at_emod (xs := s.cells) (k := s.ix % (s.cells.length : Nat)) (Int.emod_nonneg _ (by omega)) (Int.emod_lt_of_pos _ hlI)
      refine ⟨y % n, { s with cells := s.cells.set (s.ix % (s.cells.length : Nat)).toNat (y / n) }, ?_, Int.emod_nonneg _ (by omega), Int.emod_lt_of_pos _ h0, by simp⟩
      show (XS.seq _ _).ev [.fr .hnd, .fr (.int n), .fr (.int y)] s = _
      have body : (XS.ite (XT.ofE (XE.op2 (o_geI B) (XE.var B 2) (XE.op2 (o_powI B) (XE.int B 10) (XE.int B 18)))) (XS.seq (XS.hc 0 (XE.op2 (o_modI B) (XE.blt (o_int B) [XE.h2 B 0]) (XE.hlen B 0)) (XE.op2 (o_divI B) (XE.var B 2) (XE.var B 1))) (XS.ret (XE.op2 (o_modI B) (XE.blt (o_int B) [XE.var B 2]) (XE.var B 1)))) (XS.pass B)).ev [.fr .hnd, .fr (.int n), .fr (.int y)] s = .ret (.int (y % n)) { s with cells := s.cells.set (s.ix % (s.cells.length : Nat)).toNat (y / n) } := by
        rw [ev_iteT t1, ev_seq (ev_hc rfl (ev_op2 (ev_var rfl) (ev_var rfl) (div_f ⟨h0, h1⟩)) (ev_op2 (ev_blt1 (ev_h2 rfl) rfl) (ev_hlen rfl) (mod_f hlI)) c3)]
        exact ev_ret (ev_op2 (ev_blt1 (ev_var rfl) rfl) (ev_var rfl) (mod_f h0))
      show (Out.bind _ _) = _
      exact (congrArg (fun o => Out.bind o _) body).trans rfl
    · have t1 : (XT.ofE (XE.op2 (o_geI B) (XE.var B 2) (XE.op2 (o_powI B) (XE.int B 10) (XE.int B 18)))).ev [.fr .hnd, .fr (.int n), .fr (.int y)] s = .ret (.bl false) s :=
        ev_ofE (ev_op2 (ev_var rfl) (ev_op2 rfl rfl (pow_f hp)) (by show some (D.bl (decide ((10 : Int) ^ 18 ≤ y))) = _; rw [decide_eq_false hc]))
      have hstep : (XS.ite (XT.ofE (XE.op2 (o_geI B) (XE.var B 2) (XE.op2 (o_powI B) (XE.int B 10) (XE.int B 18)))) (XS.seq (XS.hc 0 (XE.op2 (o_modI B) (XE.blt (o_int B) [XE.h2 B 0]) (XE.hlen B 0)) (XE.op2 (o_divI B) (XE.var B 2) (XE.var B 1))) (XS.ret (XE.op2 (o_modI B) (XE.blt (o_int B) [XE.var B 2]) (XE.var B 1)))) (XS.pass B)).ev [.fr .hnd, .fr (.int n), .fr (.int y)] s = .nxt [.fr .hnd, .fr (.int n), .fr (.int y)] s := ev_iteF t1
      refine ⟨((s.st * 48271 + y * 69621 + 11) % 2147483647 / 7) % n, { s with st := (s.st * 48271 + y * 69621 + 11) % 2147483647, ix := s.ix + 1 }, ?_, Int.emod_nonneg _ (by omega), Int.emod_lt_of_pos _ h0, rfl⟩
      show (XS.seq _ _).ev [.fr .hnd, .fr (.int n), .fr (.int y)] s = _
      rw [ev_seq hstep, ev_seq (ev_sh0 rfl (ev_op2 (ev_blt1 (ev_op2 (ev_op2 (ev_op2 (ev_h0 rfl) rfl (mul_f (.inr ⟨by decide, by decide⟩))) (ev_op2 (ev_var rfl) rfl (mul_f (.inr ⟨by decide, by decide⟩))) rfl) rfl rfl) rfl) rfl (mod_f (by decide)))), ev_seq (ev_sh2 rfl (ev_op2 (ev_h2 rfl) rfl rfl))]
      exact ev_ret (ev_op2 (ev_blt1 (ev_op2 (ev_h0 rfl) rfl (div_f ⟨by decide, by decide⟩)) rfl) (ev_var rfl) (mod_f h0))
  obtain ⟨v, s', e, r⟩ := hev
  refine ⟨v, s', ?_, r⟩
  show ((p__law_next B).ev [.fr .hnd, .fr (.int n), .no] s).res = _
  rw [e]
  exact rfl

def W5 : List Str := ["blue", "gray", "pink", "red", "tan"]
def L6 : List Str := ["hue", "size", "age", "kind", "lid", "bag"]
def sD (w : List Str) : List D := w.map D.str
def pD (n : Str) (w : List Str) : D := fD (n, w)
def Wok (w : List Str) : Prop := w.Sublist W5 ∧ 2 ≤ w.length
theorem popAt_ok {ds : List D} {k : Int} (h0 : 0 ≤ k) (h1 : k < ds.length) (hl : ds.length ≤ 1000) : popAtD ds k = some (ds.eraseIdx k.toNat) := by
  unfold popAtD
  rw [seqIndex_of h0 h1]
  exact if_pos ⟨by omega, by omega, by omega⟩
theorem sD_erase (w : List Str) (k : Nat) : (sD w).eraseIdx k = sD (w.eraseIdx k) := by
  unfold sD
  induction w generalizing k with
  | nil => simp
  | cons a w ih => cases k with
    | zero => simp
    | succ k => simp [ih]
def wt (B : Bs) : XT B := .ofE (.op2 (o_gtI B) (.len [] (.var B 4)) (.op2 (o_add B) (.int B 2) (.call 2 (g__law_next B) [.var B 0, .int B 3] rfl)))
def wb (B : Bs) : XS B := .popAt 4 (.view (.call 2 (g__law_next B) [.var B 0, .len [] (.var B 4)] rfl))
theorem while_ok {B : Bs} {N : Int} {a b : Sl} : ∀ (n : Nat) (w : List Str) (s : HS), w.length ≤ n → Wok w → s.cells.length ≤ 63 →
    ∃ w' s', whileL (XT.view (wt B)).ev (wb B).ev n [.fr .hnd, .fr (.int N), a, b, .lo (sD w)] s = .nxt [.fr .hnd, .fr (.int N), a, b, .lo (sD w')] s' ∧ Wok w' ∧ s'.cells.length = s.cells.length
  | 0, w, s, hn, hw, hs => by have := hw.2; omega
  | n + 1, w, s, hn, hw, hs => by
    obtain ⟨v, s1, e1, v0, v1, hc1⟩ := next_ok (B := B) (n := 3) (s := s) (by decide) (by decide) hs
    have t1 : (XT.view (wt B)).ev [.fr .hnd, .fr (.int N), a, b, .lo (sD w)] s = .ret (.bl (decide ((2 + v : Int) < ((sD w).length : Nat)))) s1 :=
      ev_viewT (ev_ofE (ev_op2 (ev_lenL (ev_var rfl)) (ev_op2 rfl (ev_call2 (ev_var rfl) rfl e1) rfl) rfl))
    have hl : (sD w).length = w.length := by simp [sD]
    by_cases hc : (2 + v : Int) < ((sD w).length : Nat)
    · rw [decide_eq_true hc] at t1
      have hlen : 2 < w.length := by rw [hl] at hc; omega
      have hs1 : s1.cells.length ≤ 63 := by rw [hc1]; exact hs
      obtain ⟨k, s2, e2, k0, k1, hc2⟩ := next_ok (B := B) (n := ((sD w).length : Nat)) (s := s1) (by rw [hl]; omega) (by
        have := hw.1.length_le
        have h5 : W5.length = 5 := rfl
        rw [hl]; omega) hs1
      have e3 : (wb B).ev [.fr .hnd, .fr (.int N), a, b, .lo (sD w)] s1 = .nxt [.fr .hnd, .fr (.int N), a, b, .lo (sD (w.eraseIdx k.toNat))] s2 := by
        refine (ev_pop (ds := sD w) rfl (ev_viewE (ev_call2 (ev_var rfl) (ev_lenL (ev_var rfl)) e2) rfl) (popAt_ok k0 k1 (by
          have := hw.1.length_le
          have h5 : W5.length = 5 := rfl
          rw [hl]; omega))).trans ?_
        rw [sD_erase]
        exact rfl
      have hkl : k.toNat < w.length := by rw [hl] at k1; omega
      have le := List.length_eraseIdx_of_lt hkl
      obtain ⟨w', s', e4, hw', hc'⟩ := while_ok (B := B) (a := a) (b := b) n (w.eraseIdx k.toNat) s2 (by omega) ⟨(List.eraseIdx_sublist w k.toNat).trans hw.1, by omega⟩ (by rw [hc2]; exact hs1)
      refine ⟨w', s', ?_, hw', by rw [hc', hc2, hc1]⟩
      exact (while_go t1 e3).trans e4
    · rw [decide_eq_false hc] at t1
      refine ⟨w, s1, ?_, hw, hc1⟩
      exact while_end t1
def rows (ws : List (List Str)) : List D := List.zipWith pD L6 ws
theorem rows_snoc {w : List Str} : ∀ {ws : List (List Str)} (h6 : ws.length < 6), rows ws ++ [pD (L6[ws.length]'h6) w] = rows (ws ++ [w])
  | [], _ => rfl
  | [_], _ => rfl
  | [_, _], _ => rfl
  | [_, _, _], _ => rfl
  | [_, _, _, _], _ => rfl
  | [_, _, _, _, _], _ => rfl
  | _ :: _ :: _ :: _ :: _ :: _ :: _, h => by simp at h; omega
def fsD (ws : List (List Str)) : D := .tup true (rows ws)
structure Fok (N : Int) (ws : List (List Str)) : Prop where
  len : (ws.length : Int) ≤ N
  pos : 1 ≤ ws.length
  wok : ∀ w ∈ ws, Wok w
def fb (B : Bs) : XS B := .seq (.setN 4 (.lst [.str B "blue", .str B "gray", .str B "pink", .str B "red", .str B "tan"])) (.seq (.while 1000 (.view (wt B)) (wb B)) (.frz 4 (.app 2 (.tup [(.ix [] (.ofN (.lst [(.str B "hue"), (.str B "size"), (.str B "age"), (.str B "kind"), (.str B "lid"), (.str B "bag")])) (.var B 3)), (.blt (o_tupA B) [(.var B 4)])]))))
theorem fb_ok {B : Bs} {N : Int} {ws : List (List Str)} {b : Sl} {i : Nat} {s : HS} (hi : ws.length = i) (h6 : i < 6) (hs : s.cells.length ≤ 63) :
    ∃ w s', (fb B).ev [.fr .hnd, .fr (.int N), .lo (rows ws), .fr (.int (i : Nat)), b] s = .nxt [.fr .hnd, .fr (.int N), .lo (rows (ws ++ [w])), .fr (.int (i : Nat)), .fr (.lst (sD w))] s' ∧ Wok w ∧ s'.cells.length = s.cells.length := by
  obtain ⟨w, s1, e1, hw, hc⟩ := while_ok (B := B) (a := .lo (rows ws)) (b := .fr (.int (i : Nat))) 1000 W5 s (by decide) ⟨List.Sublist.refl _, by decide⟩ hs
  refine ⟨w, s1, ?_, hw, hc⟩
  have e0 : (XS.setN 4 (XN.lst [XE.str B "blue", XE.str B "gray", XE.str B "pink", XE.str B "red", XE.str B "tan"])).ev [.fr .hnd, .fr (.int N), .lo (rows ws), .fr (.int (i : Nat)), b] s = .nxt [.fr .hnd, .fr (.int N), .lo (rows ws), .fr (.int (i : Nat)), .lo (sD W5)] s := rfl
  unfold fb
  rw [ev_seq e0, ev_seq (a := XS.while 1000 (XT.view (wt B)) (wb B)) e1]
  have hL : atI (L6.map D.str) (i : Nat) = some (.str (L6[i]'h6)) := by
    match i, h6 with
    | 0, _ => rfl
    | 1, _ => rfl
    | 2, _ => rfl
    | 3, _ => rfl
    | 4, _ => rfl
    | 5, _ => rfl
  have hrl : (rows ws).length < 100000 := by unfold rows; rw [List.length_zipWith]; have : L6.length = 6 := rfl; omega
  have hsn : rows ws ++ [pD (L6[i]'h6) w] = rows (ws ++ [w]) := by
    subst hi
    exact rows_snoc h6
  have e5 : (XE.tup [(.ix [] (.ofN (.lst [(.str B "hue"), (.str B "size"), (.str B "age"), (.str B "kind"), (.str B "lid"), (.str B "bag")])) (.var B 3)), (.blt (o_tupA B) [(.var B 4)])]).ev [.fr .hnd, .fr (.int N), .lo (rows ws), .fr (.int (i : Nat)), .fr (.lst (sD w))] s1 = .ret (pD (L6[i]'h6) w) s1 :=
    ev_tup2 (ev_ixL (ds := L6.map D.str) rfl (ev_var rfl) hL) (ev_blt1 (ev_var rfl) rfl)
  refine ev_frz ((ev_app (ds := rows ws) (d := pD (L6[i]'h6) w) (s1 := s1) rfl hrl e5).trans ?_)
  rw [hsn]
  exact rfl
theorem range_drop (n : Nat) : ∀ i, i ≤ n → ((List.range n).map fun (i : Nat) => D.int (0 + (i : Int))).drop i = ((List.range' i (n - i)).map fun (i : Nat) => D.int (0 + (i : Int))) := by
  intro i hi
  rw [← List.map_drop, List.range_eq_range', List.drop_range']
  simp
theorem fors_ok {B : Bs} {N : Int} : ∀ (k i : Nat) (ws : List (List Str)) (b c : Sl) (s : HS), ws.length = i → i + k ≤ 6 → (∀ w ∈ ws, Wok w) → s.cells.length ≤ 63 →
    ∃ ws' b' c' s', forL (B := B) (.name B 3) (fb B).ev ((List.range' i k).map fun (i : Nat) => D.int (0 + (i : Int))) [.fr .hnd, .fr (.int N), .lo (rows ws), b, c] s = .nxt [.fr .hnd, .fr (.int N), .lo (rows ws'), b', c'] s' ∧ ws'.length = i + k ∧ (∀ w ∈ ws', Wok w) ∧ s'.cells.length = s.cells.length
  | 0, i, ws, b, c, s, hi, _, hw, hs => ⟨ws, b, c, s, rfl, hi, hw, rfl⟩
  | k + 1, i, ws, b, c, s, hi, h6, hw, hs => by
    obtain ⟨w, s1, e1, hw1, hc1⟩ := fb_ok (B := B) (b := c) (s := s) hi (by omega) hs
    obtain ⟨ws', b', c', s', e2, hl, hw2, hc2⟩ := fors_ok (B := B) k (i + 1) (ws ++ [w]) (.fr (.int (i : Nat))) (.fr (.lst (sD w))) s1 (by simp [hi]) (by omega) (fun x hx => by
      rcases List.mem_append.mp hx with hx | hx
      · exact hw x hx
      · rw [List.mem_singleton.mp hx]; exact hw1) (by rw [hc1]; exact hs)
    refine ⟨ws', b', c', s', ?_, by omega, hw2, by rw [hc2, hc1]⟩
    have e3 : (List.range' i (k + 1)).map (fun (i : Nat) => D.int (0 + (i : Int))) = D.int (0 + (i : Int)) :: (List.range' (i + 1) k).map fun (i : Nat) => D.int (0 + (i : Int)) := rfl
    rw [e3]
    have ez : (0 + (i : Int)) = (i : Int) := by omega
    refine (for_cons (l := [(3, .int (0 + (i : Int)))]) rfl (Γ2 := [.fr .hnd, .fr (.int N), .lo (rows (ws ++ [w])), .fr (.int (i : Nat)), .fr (.lst (sD w))]) (s2 := s1) ?_).trans e2
    show (fb B).ev [.fr .hnd, .fr (.int N), .lo (rows ws), .fr (.int (0 + (i : Int))), c] s = _
    rw [ez]
    exact e1
theorem features_ok {B : Bs} {N : Int} {s : HS} (hN : 1 ≤ N) (hN6 : N ≤ 6) (hs : s.cells.length ≤ 63) : ∃ ws s', g__law_features B [.hnd, .int N] s = .ret (fsD ws) s' ∧ Fok N ws ∧ s'.cells.length = s.cells.length := by
  obtain ⟨v, s1, e1, v0, v1, hc1⟩ := next_ok (B := B) (n := N) (s := s) (by omega) (by omega) hs
  obtain ⟨ws, b', c', s2, e2, hl, hw, hc2⟩ := fors_ok (B := B) (1 + v).toNat 0 [] .no .no s1 rfl (by omega) (fun w h => nomatch h) (by rw [hc1]; exact hs)
  refine ⟨ws, s2, ?_, ⟨by omega, by omega, hw⟩, by rw [hc2, hc1]⟩
  have ei : (XI.range1 (XE.op2 (o_add B) (XE.int B 1) (XE.call 2 (g__law_next B) [XE.var B 0, XE.var B 1] rfl))).ev [.fr .hnd, .fr (.int N), .lo [], .no, .no] s = .ret (.lst (rangeD 0 (1 + v))) s1 := by
    have e0 : (XE.op2 (o_add B) (XE.int B 1) (XE.call 2 (g__law_next B) [XE.var B 0, XE.var B 1] rfl)).ev [.fr .hnd, .fr (.int N), .lo [], .no, .no] s = .ret (.int (1 + v)) s1 := ev_op2 rfl (ev_call2 (ev_var rfl) (ev_var rfl) e1) rfl
    show ((XE.op2 (o_add B) (XE.int B 1) (XE.call 2 (g__law_next B) [XE.var B 0, XE.var B 1] rfl)).ev [.fr .hnd, .fr (.int N), .lo [], .no, .no] s).bind _ = _
    rw [e0]
    exact if_pos ⟨by omega, by omega⟩
  have er : rangeD 0 (1 + v) = (List.range' 0 (1 + v).toNat).map fun (i : Nat) => D.int (0 + (i : Int)) := by
    unfold rangeD
    rw [Int.sub_zero, List.range_eq_range']
  have ef : (p__law_features B).ev [.fr .hnd, .fr (.int N), .no, .no, .no] s = .ret (fsD ws) s2 := by
    unfold p__law_features
    have ea : (XS.setN 2 (XN.lst (B := B) [])).ev [.fr .hnd, .fr (.int N), .no, .no, .no] s = .nxt [.fr .hnd, .fr (.int N), .lo [], .no, .no] s := rfl
    rw [ev_seq ea]
    have eb : (XS.for (XI.range1 (XE.op2 (o_add B) (XE.int B 1) (XE.call 2 (g__law_next B) [XE.var B 0, XE.var B 1] rfl))) (.name B 3) (fb B)).ev [.fr .hnd, .fr (.int N), .lo [], .no, .no] s = .nxt [.fr .hnd, .fr (.int N), .lo (rows ws), b', c'] s2 := by
      rw [ev_for ei, er]
      exact e2
    refine (ev_seq (a := XS.for _ (.name B 3) (fb B)) eb).trans ?_
    refine ev_frz (ev_ret (ev_blt1 (ev_var (d := .lst (rows ws)) rfl) rfl))
  show ((p__law_features B).ev [.fr .hnd, .fr (.int N), .no, .no, .no] s).res = _
  rw [ef]
  exact rfl
end Lo

set_option Elab.async false
set_option linter.all false
set_option maxRecDepth 100000
/-! # Drawn notes -/
namespace Lo
open PySem PySem.Spec PyProof.Rows L2 Evl Dv
section
variable {B : Bs}
def stt (B : Bs) : XT B := .ofE (.eq false [] (.call 2 (g__law_next B) [(.var B 0), (.int B 2)] rfl) (.int B 0))
theorem some_lc {a1 a2 : Sl} : ∀ (w : List Str) (s : HS), s.cells.length ≤ 63 → ∃ (w' : List Str) (s' : HS), lcL (XG.name B 3).as (stt B).ev (XE.var B 3).ev [3] [.fr .hnd, a1, a2, .no] (w.map D.str) s = some (w'.map D.str, s') ∧ w'.Sublist w ∧ s'.cells.length = s.cells.length
  | [], s, _ => ⟨[], s, rfl, List.Sublist.refl _, rfl⟩
  | x :: w, s, hs => by
    obtain ⟨v, s1, e1, v0, v1, c1⟩ := next_ok (B := B) (n := 2) (s := s) (by decide) (by decide) hs
    obtain ⟨w', s', e2, hw, c2⟩ := some_lc (a1 := a1) (a2 := a2) w s1 (by rw [c1]; exact hs)
    have t : (stt B).ev (setGm [.fr .hnd, a1, a2, .no] [(3, .str x)]) s = .ret (.bl (decide (v = 0))) s1 := by
      unfold stt
      simp [e1]
    by_cases h : v = 0
    · rw [decide_eq_true h] at t
      exact ⟨x :: w', s', lc_put (l := [(3, .str x)]) rfl rfl t rfl e2, hw.cons₂ x, by rw [c2, c1]⟩
    · rw [decide_eq_false h] at t
      exact ⟨w', s', (lc_skip (l := [(3, .str x)]) rfl rfl t).trans e2, hw.cons x, by rw [c2, c1]⟩
theorem sok5 : Sok W5 := by
  have h : W5.all PyData.strOk = true := by decide +kernel
  exact fun x hx => List.all_eq_true.mp h x hx
theorem Sok.sub {a b : List Str} (h : Sok b) (k : a.Sublist b) : Sok a := fun x hx => h x (k.subset hx)
theorem some_ok {w : List Str} {s : HS} (hw : w.Sublist W5) (hne : w ≠ []) (hs : s.cells.length ≤ 63) : ∃ w' s', g__law_some B [.hnd, wD w] s = .ret (wD w') s' ∧ w'.Sublist w ∧ w' ≠ [] ∧ s'.cells.length = s.cells.length := by
  have hwl : w.length ≤ 5 := hw.length_le
  obtain ⟨v, s1, e1, v0, v1, c1⟩ := next_ok (B := B) (n := 3) (s := s) (by decide) (by decide) hs
  by_cases h : v = 0
  · refine ⟨w, s1, ?_, List.Sublist.refl _, hne, c1⟩
    unfold g__law_some
    rw [z_fn]
    simp [p__law_some, e1, h]
  · obtain ⟨w', s2, e2, hsub, c2⟩ := some_lc (B := B) (a1 := .fr (wD w)) (a2 := .no) w s1 (by rw [c1]; exact hs)
    have hp : (p__law_some B).ev [.fr .hnd, .fr (wD w), .no, .no] s = (XS.ret (.ifx (.ofE (.eq true [] (.var B 2) (.ofN (.lst [])))) (.blt (o_tupA B) [(.var B 2)]) (.tup [(.ix [] (.var B 1) (.call 2 (g__law_next B) [(.var B 0), (.len [] (.var B 1))] rfl))]))).ev [.fr .hnd, .fr (wD w), .fr (.lst (w'.map D.str)), .no] s2 := by
      unfold p__law_some
      refine (ev_seq (Γ1 := [.fr .hnd, .fr (wD w), .no, .no]) (s1 := s1) ?_).trans ?_
      · simp [e1, h]
      refine (ev_seq (Γ1 := [.fr .hnd, .fr (wD w), .fr (.lst (w'.map D.str)), .no]) (s1 := s2) ?_).trans rfl
      refine (ev_set (ev_lc (s1 := s1) (ds := w.map D.str) ?_ (by simp; omega) e2)).trans rfl
      simp
    have hs2 : s2.cells.length ≤ 63 := by rw [c2, c1]; exact hs
    by_cases hn : w' = []
    · subst hn
      have hl : 0 < w.length := List.length_pos_iff.mpr hne
      obtain ⟨k, s3, e3, k0, k1, c3⟩ := next_ok (B := B) (n := (w.length : Nat)) (s := s2) (by omega) (by omega) hs2
      obtain ⟨x, a1, a2, _⟩ := at_emod (xs := w.map D.str) k0 (by simpa using k1)
      rw [List.getElem?_map] at a2
      obtain ⟨y, hy, rfl⟩ := Option.map_eq_some_iff.mp a2
      refine ⟨[y], s3, ?_, List.singleton_sublist.mpr (List.mem_of_getElem? hy), by simp, by rw [c3, c2, c1]⟩
      have hq : eqE true [] (.lst []) (.lst []) s2 = .ret (.bl false) s2 := by
        have := eq_nil (neg := true) (s := s2) (a := []) (fun _ h => nomatch h)
        exact this
      have hix : ixE [] (wD w) (.int k) s3 = .ret (.str y) s3 := by
        unfold wD
        rw [z_ixT, z_ixFT, a1]
        rfl
      have main : (p__law_some B).ev [.fr .hnd, .fr (wD w), .no, .no] s = .ret (wD [y]) s3 := by
        rw [hp]
        simp [hq, e3, hix]
        rfl
      exact congrArg Out.res main
    · refine ⟨w', s2, ?_, hsub, hn, by rw [c2, c1]⟩
      have hq := eq_nil (neg := true) (s := s2) ((sok5.sub hw).sub hsub)
      have main : (p__law_some B).ev [.fr .hnd, .fr (wD w), .no, .no] s = .ret (wD w') s2 := by
        rw [hp]
        simp [hq, hn]
        rfl
      exact congrArg Out.res main
/-- drawn values for every feature -/
def Vs : FV → FV → Prop
  | [], [] => True
  | f :: fs, v :: vs => (v.1 = f.1 ∧ v.2.Sublist f.2 ∧ v.2 ≠ []) ∧ Vs fs vs
  | _, _ => False
def Fs (fs : FV) : Prop := ∀ f ∈ fs, Wok f.2
theorem sets_lc {a1 : Sl} : ∀ (fs : FV) (s : HS), Fs fs → s.cells.length ≤ 63 → ∃ (vs : FV) (s' : HS), lcL (XG.tup [XG.name B 2, XG.name B 3]).as (XT.yes B).ev (XE.tup [(.var B 2), (.call 2 (g__law_some B) [(.var B 0), (.var B 3)] rfl)]).ev [2, 3] [.fr .hnd, a1, .no, .no] (fs.map fD) s = some (vs.map fD, s') ∧ Vs fs vs ∧ s'.cells.length = s.cells.length
  | [], s, _, _ => ⟨[], s, rfl, trivial, rfl⟩
  | f :: fs, s, hf, hs => by
    have hw := hf f (List.mem_cons_self ..)
    obtain ⟨w', s1, e1, hsub, hne, c1⟩ := some_ok (B := B) (w := f.2) (s := s) hw.1 (fun z => by have := hw.2; rw [z] at this; simp at this) hs
    obtain ⟨vs, s', e2, hv, c2⟩ := sets_lc fs s1 (fun g hg => hf g (List.mem_cons_of_mem _ hg)) (by rw [c1]; exact hs)
    refine ⟨(f.1, w') :: vs, s', ?_, ⟨⟨rfl, hsub, hne⟩, hv⟩, by rw [c2, c1]⟩
    refine lc_put (l := [(2, .str f.1), (3, wD f.2)]) (by simp [fD]) rfl (s1 := s) rfl (s2 := s1) ?_ e2
    simp [e1]
    rfl
theorem Vs.names : ∀ {fs vs : FV}, Vs fs vs → vs.map (·.1) = fs.map (·.1)
  | [], [], _ => rfl
  | f :: fs, v :: vs, h => by rw [List.map_cons, List.map_cons, h.1.1, Vs.names h.2]
theorem prs_fD : ∀ vs : FV, prsD (vs.map fD) = some (vs.map (encK wD))
  | [] => rfl
  | e :: r => by
    show (match prsD (r.map fD) with
      | some l => some (((Sum.inr e.1 : Key), wD e.2) :: l)
      | none => none) = _
    rw [prs_fD r]
    exact rfl
theorem put_new {α : Type} {f : α → D} {l : List (Str × α)} {x : Str} {v : α} (h : x ∉ l.map (·.1)) : putKD (l.map (encK f)) (.inr x) (f v) = (l ++ [(x, v)]).map (encK f) := by
  unfold putKD
  rw [if_neg]
  · rw [List.map_append]; exact rfl
  · intro z
    rw [List.any_eq_true] at z
    obtain ⟨y, hy, hk⟩ := z
    obtain ⟨q, hq, rfl⟩ := List.mem_map.mp hy
    have hk2 : (Sum.inr q.1 : Key) = Sum.inr x := of_decide_eq_true hk
    exact h (List.mem_map.mpr ⟨q, hq, Sum.inr.inj hk2⟩)
theorem merge_enc {α : Type} {f : α → D} : ∀ (es acc : List (Str × α)), (acc.map (·.1) ++ es.map (·.1)).Nodup → mergeD (acc.map (encK f)) (es.map (encK f)) = (acc ++ es).map (encK f)
  | [], acc, _ => by rw [List.append_nil]; exact rfl
  | e :: r, acc, h => by
    have hne : e.1 ∉ acc.map (·.1) := fun z => by
      have := (List.nodup_append.mp h).2.2 e.1 z e.1 (by simp)
      exact this rfl
    have e1 : putKD (acc.map (encK f)) (.inr e.1) (f e.2) = (acc ++ [e]).map (encK f) := put_new hne
    show mergeD (putKD (acc.map (encK f)) (.inr e.1) (f e.2)) (r.map (encK f)) = _
    rw [e1, merge_enc r (acc ++ [e]) (by rw [List.map_append, List.append_assoc]; exact h), List.append_assoc]
    exact rfl
theorem dic_fD {vs : FV} (h : (vs.map (·.1)).Nodup) : dicA [.lst (vs.map fD)] = some (vs.map (encK wD)) := by
  show (prsD (vs.map fD)).map (mergeD []) = _
  rw [prs_fD]
  have m := merge_enc (f := wD) vs [] (by simpa using h)
  rw [List.map_nil] at m
  show some (mergeD [] (vs.map (encK wD))) = _
  rw [m]
  rfl
theorem sets_ok {fs : FV} {s : HS} (hf : Fs fs) (hn : (fs.map (·.1)).Nodup) (hl : fs.length ≤ 6) (hs : s.cells.length ≤ 63) : ∃ vs s', g__law_sets B [.hnd, ftD fs] s = .ret (.dic true (vs.map (encK wD))) s' ∧ Vs fs vs ∧ s'.cells.length = s.cells.length := by
  obtain ⟨vs, s', e, hv, c⟩ := sets_lc (B := B) (a1 := .fr (ftD fs)) fs s hf hs
  refine ⟨vs, s', ?_, hv, c⟩
  unfold g__law_sets
  rw [z_fn]
  have hd := dic_fD (vs := vs) (by rw [hv.names]; exact hn)
  have hlc : (XE.ofN (XN.lc (.wk (.var B 1)) (.tup [(.name B 2), (.name B 3)]) (.yes B) (.tup [(.var B 2), (.call 2 (g__law_some B) [(.var B 0), (.var B 3)] rfl)]) [2, 3])).ev [.fr .hnd, .fr (ftD fs), .no, .no] s = .ret (.lst (vs.map fD)) s' := ev_lc (s1 := s) (ds := fs.map fD) (by simp) (by simp; omega) e
  simp only [z_ofN] at hlc
  simp only [p__law_sets, List.map_cons, List.map_nil, List.length_cons, List.length_nil, List.replicate, List.cons_append, List.nil_append, z_ret, z_ofD, z_dblt, z_evs, z_evs0, z_ofN, hlc, z_bind, od_f, hd, z_dctE, z_out, z_fnR]
end
end Lo

set_option Elab.async false
set_option linter.all false
set_option maxRecDepth 100000
/-! # What is drawn -/
namespace Lo
open PySem PySem.Spec PyProof.Rows L2 Evl Dv
section
variable {B : Bs} {Γ : Gm} {s s1 s2 : HS}
theorem ev_dput {i : Nat} {kvs : List (Key × D)} {k p : XE B} {x : Str} {d : D} (hi : Γ[i]? = some (.dco kvs)) (hl : kvs.length < 100000) (hp : p.ev Γ s = .ret d s1) (hk : k.ev Γ s1 = .ret (.str x) s2) :
    (XS.dput i k p).ev Γ s = .nxt (Γ.set i (.dco (putKD kvs (.inr x) d))) s2 := by
  unfold XS.dput
  dsimp only
  rw [hi]
  dsimp only
  rw [hp, z_out, hk, z_out]
  exact if_pos hl
theorem ev_frzD {i : Nat} {kvs : List (Key × D)} {p : XS B} {o : Out} (hi : Γ[i]? = some (.dco kvs)) (h : p.ev (Γ.set i (.fr (.dic true kvs))) s = o) : (XS.frzD i p).ev Γ s = o := by
  unfold XS.frzD
  dsimp only
  rw [hi]
  exact h
theorem cut_take {ds : List D} {k : Int} (h : 0 ≤ k) : Dv.cutD ds none (some k) = ds.take k.toNat := by
  have h1 : HT.sIx ds.length ds.length (some k) = min k.toNat ds.length := by
    unfold HT.sIx
    dsimp only
    first
      | (rw [if_neg (by omega)]; omega)
      | (split <;> omega)
  have h0 : HT.sIx ds.length 0 none = 0 := rfl
  unfold Dv.cutD
  rw [h1, h0, List.drop_zero, Nat.sub_zero, ← List.take_take, List.take_length]
structure Tok (fs : FV) (t : Th) : Prop where
  v : Vs fs t.v
  d0 : 2 ≤ t.day
  d1 : t.day ≤ 10
structure Cok (fs : FV) (c : Cl) : Prop where
  v : Vs fs c.v
  d0 : 0 ≤ c.day
  d1 : c.day ≤ 8
  sl : c.slips ≤ 2
  w0 : 1 ≤ c.worth
  w1 : c.worth ≤ 9
def LT : List Str := ["bag", "cap", "key", "mug", "pen", "urn"]
def LC : List Str := ["ann", "bob", "cy", "dot", "eve", "fay"]
structure Dr (o : Of) : Prop where
  fpos : 1 ≤ o.fs.length
  flen : o.fs.length ≤ 3
  fn : ∃ k, o.fs.map (·.1) = L6.take k
  fok : Fs o.fs
  tn : ∃ k, o.ths.map (·.1) = LT.take k
  cn : ∃ k, o.cls.map (·.1) = LC.take k
  tok : ∀ p ∈ o.ths, Tok o.fs p.2
  cok : ∀ p ∈ o.cls, Cok o.fs p.2
def dtB (B : Bs) : XS B := .dput 4 (.var B 6) (.tup [(.call 2 (g__law_sets B) [(.var B 0), (.var B 3)] rfl), (.op2 (o_add B) (.int B 2) (.call 2 (g__law_next B) [(.var B 0), (.int B 9)] rfl))])
theorem dt_loop {a1 a2 x5 x7 : Sl} {fs : FV} (hf : Fs fs) (hn : (fs.map (·.1)).Nodup) (hl : fs.length ≤ 6) : ∀ (ls : List Str) (acc : List (Str × Th)) (x6 : Sl) (s : HS), (acc.map (·.1) ++ ls).Nodup → acc.length + ls.length ≤ 1000 → (∀ p ∈ acc, Tok fs p.2) → s.cells.length ≤ 63 →
    ∃ (ths : List (Str × Th)) (y6 : Sl) (s' : HS), forL (XG.name B 6) (dtB B).ev (ls.map D.str) [.fr .hnd, a1, a2, .fr (ftD fs), .dco (acc.map (encK dthD)), x5, x6, x7] s = .nxt [.fr .hnd, a1, a2, .fr (ftD fs), .dco (ths.map (encK dthD)), x5, y6, x7] s' ∧ ths.map (·.1) = acc.map (·.1) ++ ls ∧ (∀ p ∈ ths, Tok fs p.2) ∧ s'.cells.length = s.cells.length
  | [], acc, x6, s, _, _, ha, _ => ⟨acc, x6, s, rfl, by simp, ha, rfl⟩
  | l :: ls, acc, x6, s, hnd, hlen, ha, hs => by
    obtain ⟨vs, s1, e1, hv, c1⟩ := sets_ok (B := B) (s := s) hf hn hl hs
    obtain ⟨v, s2, e2, v0, v1, c2⟩ := next_ok (B := B) (n := 9) (s := s1) (by decide) (by decide) (by rw [c1]; exact hs)
    have hne : l ∉ acc.map (·.1) := fun z => by
      have := (List.nodup_append.mp hnd).2.2 l z l (by simp)
      exact this rfl
    have hlc : (l :: ls).length = ls.length + 1 := rfl
    obtain ⟨ths, y6, s', e3, h1, h2, c3⟩ := dt_loop (a1 := a1) (a2 := a2) (x5 := x5) (x7 := x7) hf hn hl ls (acc ++ [(l, ⟨vs, 2 + v⟩)]) (.fr (.str l)) s2 (by rw [List.map_append, List.append_assoc]; exact hnd) (by rw [List.length_append]; simp; omega) (fun p hp => by
      rcases List.mem_append.mp hp with hp | hp
      · exact ha p hp
      · rw [List.mem_singleton.mp hp]
        exact ⟨hv, by show 2 ≤ 2 + v; omega, by show 2 + v ≤ 10; omega⟩) (by rw [c2, c1]; exact hs)
    refine ⟨ths, y6, s', ?_, by rw [h1, List.map_append, List.append_assoc]; rfl, h2, by rw [c3, c2, c1]⟩
    refine (for_cons (l := [(6, .str l)]) rfl (Γ2 := [.fr .hnd, a1, a2, .fr (ftD fs), .dco ((acc ++ [(l, (⟨vs, 2 + v⟩ : Th))]).map (encK dthD)), x5, .fr (.str l), x7]) (s2 := s2) ?_).trans e3
    have ep : (XE.tup [(.call 2 (g__law_sets B) [(.var B 0), (.var B 3)] rfl), (.op2 (o_add B) (.int B 2) (.call 2 (g__law_next B) [(.var B 0), (.int B 9)] rfl))]).ev [.fr .hnd, a1, a2, .fr (ftD fs), .dco (acc.map (encK dthD)), x5, .fr (.str l), x7] s = .ret (dthD ⟨vs, 2 + v⟩) s2 :=
      ev_tup2 (ev_call2 (s1 := s) rfl rfl e1) (ev_op2 (s1 := s1) rfl (ev_call2 (s1 := s1) rfl rfl e2) rfl)
    refine (ev_dput (kvs := acc.map (encK dthD)) (s2 := s2) rfl (by rw [List.length_map]; omega) ep rfl).trans ?_
    rw [put_new (f := dthD) (v := ⟨vs, 2 + v⟩) hne]
    rfl
def dcB (B : Bs) : XS B := .seq (.set 7 (.ix [] (.ofN (.lst [(.int B 0), (.int B 0), (.int B 1), (.int B 2)])) (.call 2 (g__law_next B) [(.var B 0), (.int B 4)] rfl))) (.dput 5 (.var B 6) (.tup [(.call 2 (g__law_sets B) [(.var B 0), (.var B 3)] rfl), (.call 2 (g__law_next B) [(.var B 0), (.int B 9)] rfl), (.var B 7), (.op2 (o_add B) (.int B 1) (.call 2 (g__law_next B) [(.var B 0), (.ix [] (.ofN (.lst [(.int B 3), (.int B 9)])) (.call 2 (g__law_next B) [(.var B 0), (.int B 2)] rfl))] rfl))]))
theorem at4 {v : Int} (h0 : 0 ≤ v) (h1 : v < 4) : ∃ k : Nat, k ≤ 2 ∧ atI [D.int 0, .int 0, .int 1, .int 2] v = some (.int (k : Nat)) := by
  have : v = 0 ∨ v = 1 ∨ v = 2 ∨ v = 3 := by omega
  rcases this with rfl | rfl | rfl | rfl
  · exact ⟨0, by decide, rfl⟩
  · exact ⟨0, by decide, rfl⟩
  · exact ⟨1, by decide, rfl⟩
  · exact ⟨2, by decide, rfl⟩
theorem at2 {v : Int} (h0 : 0 ≤ v) (h1 : v < 2) : ∃ k : Int, 3 ≤ k ∧ k ≤ 9 ∧ atI [D.int 3, .int 9] v = some (.int k) := by
  have : v = 0 ∨ v = 1 := by omega
  rcases this with rfl | rfl
  · exact ⟨3, by decide, by decide, rfl⟩
  · exact ⟨9, by decide, by decide, rfl⟩
theorem dc_loop {a1 a2 x4 : Sl} {fs : FV} (hf : Fs fs) (hn : (fs.map (·.1)).Nodup) (hl : fs.length ≤ 6) : ∀ (ls : List Str) (acc : List (Str × Cl)) (x6 x7 : Sl) (s : HS), (acc.map (·.1) ++ ls).Nodup → acc.length + ls.length ≤ 1000 → (∀ p ∈ acc, Cok fs p.2) → s.cells.length ≤ 63 →
    ∃ (cls : List (Str × Cl)) (y6 y7 : Sl) (s' : HS), forL (XG.name B 6) (dcB B).ev (ls.map D.str) [.fr .hnd, a1, a2, .fr (ftD fs), x4, .dco (acc.map (encK dclD)), x6, x7] s = .nxt [.fr .hnd, a1, a2, .fr (ftD fs), x4, .dco (cls.map (encK dclD)), y6, y7] s' ∧ cls.map (·.1) = acc.map (·.1) ++ ls ∧ (∀ p ∈ cls, Cok fs p.2) ∧ s'.cells.length = s.cells.length
  | [], acc, x6, x7, s, _, _, ha, _ => ⟨acc, x6, x7, s, rfl, by simp, ha, rfl⟩
  | l :: ls, acc, x6, x7, s, hnd, hlen, ha, hs => by
    obtain ⟨v, s1, e1, v0, v1, c1⟩ := next_ok (B := B) (n := 4) (s := s) (by decide) (by decide) hs
    obtain ⟨sl, hsl, e1b⟩ := at4 v0 v1
    obtain ⟨vs, s2, e2, hv, c2⟩ := sets_ok (B := B) (s := s1) hf hn hl (by rw [c1]; exact hs)
    obtain ⟨dy, s3, e3, d0, d1, c3⟩ := next_ok (B := B) (n := 9) (s := s2) (by decide) (by decide) (by rw [c2, c1]; exact hs)
    obtain ⟨u, s4, e4, u0, u1, c4⟩ := next_ok (B := B) (n := 2) (s := s3) (by decide) (by decide) (by rw [c3, c2, c1]; exact hs)
    obtain ⟨b, b0, b1, e4b⟩ := at2 u0 u1
    obtain ⟨w, s5, e5, w0, w1, c5⟩ := next_ok (B := B) (n := b) (s := s4) (by omega) (by omega) (by rw [c4, c3, c2, c1]; exact hs)
    have hne : l ∉ acc.map (·.1) := fun z => by
      have := (List.nodup_append.mp hnd).2.2 l z l (by simp)
      exact this rfl
    have hlc : (l :: ls).length = ls.length + 1 := rfl
    obtain ⟨cls, y6, y7, s', e6, h1, h2, c6⟩ := dc_loop (a1 := a1) (a2 := a2) (x4 := x4) hf hn hl ls (acc ++ [(l, ⟨vs, dy, sl, 1 + w⟩)]) (.fr (.str l)) (.fr (.int (sl : Nat))) s5 (by rw [List.map_append, List.append_assoc]; exact hnd) (by rw [List.length_append]; simp; omega) (fun p hp => by
      rcases List.mem_append.mp hp with hp | hp
      · exact ha p hp
      · rw [List.mem_singleton.mp hp]
        exact ⟨hv, d0, by show dy ≤ 8; omega, hsl, by show 1 ≤ 1 + w; omega, by show 1 + w ≤ 9; omega⟩) (by rw [c5, c4, c3, c2, c1]; exact hs)
    refine ⟨cls, y6, y7, s', ?_, by rw [h1, List.map_append, List.append_assoc]; rfl, h2, by rw [c6, c5, c4, c3, c2, c1]⟩
    refine (for_cons (l := [(6, .str l)]) rfl (Γ2 := [.fr .hnd, a1, a2, .fr (ftD fs), x4, .dco ((acc ++ [(l, (⟨vs, dy, sl, 1 + w⟩ : Cl))]).map (encK dclD)), .fr (.str l), .fr (.int (sl : Nat))]) (s2 := s5) ?_).trans e6
    have es : (XS.set 7 (.ix [] (.ofN (.lst [(.int B 0), (.int B 0), (.int B 1), (.int B 2)])) (.call 2 (g__law_next B) [(.var B 0), (.int B 4)] rfl))).ev [.fr .hnd, a1, a2, .fr (ftD fs), x4, .dco (acc.map (encK dclD)), .fr (.str l), x7] s = .nxt [.fr .hnd, a1, a2, .fr (ftD fs), x4, .dco (acc.map (encK dclD)), .fr (.str l), .fr (.int (sl : Nat))] s1 :=
      (ev_set (ev_ixL (ds := [D.int 0, .int 0, .int 1, .int 2]) (s1 := s) rfl (ev_call2 (s1 := s) rfl rfl e1) e1b)).trans rfl
    have ew : (XE.op2 (o_add B) (.int B 1) (.call 2 (g__law_next B) [(.var B 0), (.ix [] (.ofN (.lst [(.int B 3), (.int B 9)])) (.call 2 (g__law_next B) [(.var B 0), (.int B 2)] rfl))] rfl)).ev [.fr .hnd, a1, a2, .fr (ftD fs), x4, .dco (acc.map (encK dclD)), .fr (.str l), .fr (.int (sl : Nat))] s3 = .ret (.int (1 + w)) s5 :=
      ev_op2 (s1 := s3) rfl (ev_call2 (s1 := s3) rfl (ev_ixL (ds := [D.int 3, .int 9]) (s1 := s3) rfl (ev_call2 (s1 := s3) rfl rfl e4) e4b) e5) rfl
    have ep : (XE.tup [(.call 2 (g__law_sets B) [(.var B 0), (.var B 3)] rfl), (.call 2 (g__law_next B) [(.var B 0), (.int B 9)] rfl), (.var B 7), (.op2 (o_add B) (.int B 1) (.call 2 (g__law_next B) [(.var B 0), (.ix [] (.ofN (.lst [(.int B 3), (.int B 9)])) (.call 2 (g__law_next B) [(.var B 0), (.int B 2)] rfl))] rfl))]).ev [.fr .hnd, a1, a2, .fr (ftD fs), x4, .dco (acc.map (encK dclD)), .fr (.str l), .fr (.int (sl : Nat))] s1 = .ret (dclD ⟨vs, dy, sl, 1 + w⟩) s5 := by
      simp only [z_tup, z_evs, z_evs0, ew]
      simp [e2, e3, e4, e4b, e5]
      rfl
    unfold dcB
    refine (ev_seq (s1 := s1) es).trans ?_
    refine (ev_dput (kvs := acc.map (encK dclD)) (s2 := s5) rfl (by rw [List.length_map]; omega) ep rfl).trans ?_
    rw [put_new (f := dclD) (v := ⟨vs, dy, sl, 1 + w⟩) hne]
    rfl
theorem ev_sliTo {p q : XE B} {ds : List D} {k : Int} (hp : p.ev Γ s = .ret (.lst ds) s1) (hq : q.ev Γ s1 = .ret (.int k) s2) (h : 0 ≤ k) : (XI.wk (XE.sli p none (some q))).ev Γ s = .ret (.lst (ds.take k.toNat)) s2 := by
  have e : (XE.sli p none (some q)).ev Γ s = .ret (.lst (ds.take k.toNat)) s2 := by
    unfold XE.sli
    dsimp only
    rw [hp, z_bind]
    dsimp only [evo]
    rw [hq, z_bind]
    dsimp only
    unfold slF
    dsimp only
    rw [cut_take h]
    rfl
  rw [z_wk, e, z_bind]
  rfl
theorem rows_zip (ws : List (List Str)) : rows ws = (L6.zip ws).map fD := by
  unfold rows
  rw [List.zip_eq_zipWith, List.map_zipWith]
  rfl
theorem zip_names : ∀ {L : List Str} {ws : List (List Str)}, ws.length ≤ L.length → (L.zip ws).map (·.1) = L.take ws.length
  | [], [], _ => rfl
  | a :: L, [], _ => rfl
  | [], _ :: _, h => by simp at h
  | a :: L, w :: ws, h => by
    rw [List.zip_cons_cons, List.map_cons, List.length_cons, List.take_succ_cons, zip_names (by simpa using h)]
theorem nd6 : L6.Nodup := by decide +kernel
theorem ndT : LT.Nodup := by decide +kernel
theorem ndC : LC.Nodup := by decide +kernel
theorem drawn_ok {nT nC : Int} (t0 : 0 ≤ nT) (t1 : nT ≤ 1000) (c0 : 0 ≤ nC) (c1 : nC ≤ 1000) (hs : s.cells.length ≤ 63) : ∃ (o : Of) (s' : HS), g__law_drawn B [.hnd, .int nT, .int nC] s = .ret (drD o) s' ∧ Dr o ∧ s'.cells.length = s.cells.length := by
  obtain ⟨ws, s1, e1, fk, k1⟩ := features_ok (B := B) (N := 3) (s := s) (by decide) (by decide) hs
  have fl := fk.len
  have fp := fk.pos
  have hlen : (L6.zip ws).length = ws.length := by
    rw [List.length_zip]
    have : L6.length = 6 := rfl
    omega
  have hnm := zip_names (L := L6) (ws := ws) (by have : L6.length = 6 := rfl; omega)
  have hF : Fs (L6.zip ws) := fun f hf => fk.wok f.2 (List.of_mem_zip hf).2
  have hN : ((L6.zip ws).map (·.1)).Nodup := by rw [hnm]; exact nd6.sublist (List.take_sublist _ _)
  have hfs : fsD ws = ftD (L6.zip ws) := by unfold fsD ftD; rw [rows_zip]
  rw [hfs] at e1
  obtain ⟨v, s2, e2, v0, v1, k2⟩ := next_ok (B := B) (n := nT + 1) (s := s1) (by omega) (by omega) (by rw [k1]; exact hs)
  obtain ⟨ths, y6, s3, e3, h1, h2, k3⟩ := dt_loop (B := B) (a1 := .fr (.int nT)) (a2 := .fr (.int nC)) (x5 := .dco []) (x7 := .no) hF hN (by omega) (LT.take v.toNat) [] .no s2 (ndT.sublist (List.take_sublist _ _)) (by
    have : (LT.take v.toNat).length ≤ 6 := List.length_take_le' _ _
    simp; omega) (fun _ h => nomatch h) (by rw [k2, k1]; exact hs)
  obtain ⟨u, s4, e4, u0, u1, k4⟩ := next_ok (B := B) (n := nC + 1) (s := s3) (by omega) (by omega) (by rw [k3, k2, k1]; exact hs)
  obtain ⟨cls, z6, z7, s5, e5, h3, h4, k5⟩ := dc_loop (B := B) (a1 := .fr (.int nT)) (a2 := .fr (.int nC)) (x4 := .dco (ths.map (encK dthD))) hF hN (by omega) (LC.take u.toNat) [] y6 .no s4 (ndC.sublist (List.take_sublist _ _)) (by
    have : (LC.take u.toNat).length ≤ 6 := List.length_take_le' _ _
    simp; omega) (fun _ h => nomatch h) (by rw [k4, k3, k2, k1]; exact hs)
  refine ⟨⟨L6.zip ws, ths, cls⟩, s5, ?_, ⟨by show 1 ≤ (L6.zip ws).length; omega, by show (L6.zip ws).length ≤ 3; omega, ⟨_, hnm⟩, hF, ⟨v.toNat, h1⟩, ⟨u.toNat, h3⟩, h2, h4⟩, by rw [k5, k4, k3, k2, k1]⟩
  unfold g__law_drawn
  rw [z_fn]
  have main : (p__law_drawn B).ev [.fr .hnd, .fr (.int nT), .fr (.int nC), .no, .no, .no, .no, .no] s = .ret (drD ⟨L6.zip ws, ths, cls⟩) s5 := by
    unfold p__law_drawn
    have p1 : (XS.par3D 3 4 5 (.call 2 (g__law_features B) [(.var B 0), (.int B 3)] rfl)).ev [.fr .hnd, .fr (.int nT), .fr (.int nC), .no, .no, .no, .no, .no] s = .nxt [.fr .hnd, .fr (.int nT), .fr (.int nC), .fr (ftD (L6.zip ws)), .dco [], .dco [], .no, .no] s1 := by
      unfold XS.par3D
      dsimp only
      simp [e1]
    refine (ev_seq (s1 := s1) p1).trans ?_
    have w1 : (XI.wk (XE.sli (.ofN (.lst [(.str B "bag"), (.str B "cap"), (.str B "key"), (.str B "mug"), (.str B "pen"), (.str B "urn")])) none (some (.call 2 (g__law_next B) [(.var B 0), (.op2 (o_add B) (.var B 1) (.int B 1))] rfl)))).ev [.fr .hnd, .fr (.int nT), .fr (.int nC), .fr (ftD (L6.zip ws)), .dco [], .dco [], .no, .no] s1 = .ret (.lst ((LT.take v.toNat).map D.str)) s2 :=
      (ev_sliTo (ds := LT.map D.str) (s1 := s1) rfl (ev_call2 (d := .hnd) (e := .int (nT + 1)) (s1 := s1) (s2 := s1) rfl rfl e2) v0).trans (by rw [List.map_take])
    refine (ev_seq (s1 := s3) ((ev_for w1).trans e3)).trans ?_
    have w2 : (XI.wk (XE.sli (.ofN (.lst [(.str B "ann"), (.str B "bob"), (.str B "cy"), (.str B "dot"), (.str B "eve"), (.str B "fay")])) none (some (.call 2 (g__law_next B) [(.var B 0), (.op2 (o_add B) (.var B 2) (.int B 1))] rfl)))).ev [.fr .hnd, .fr (.int nT), .fr (.int nC), .fr (ftD (L6.zip ws)), .dco (ths.map (encK dthD)), .dco [], y6, .no] s3 = .ret (.lst ((LC.take u.toNat).map D.str)) s4 :=
      (ev_sliTo (ds := LC.map D.str) (s1 := s3) rfl (ev_call2 (d := .hnd) (e := .int (nC + 1)) (s1 := s3) (s2 := s3) rfl rfl e4) u0).trans (by rw [List.map_take])
    refine (ev_seq (s1 := s5) ((ev_for w2).trans e5)).trans ?_
    refine ev_frzD (kvs := cls.map (encK dclD)) rfl (ev_frzD (kvs := ths.map (encK dthD)) rfl ?_)
    rfl
  exact congrArg Out.res main
end
end Lo

set_option Elab.async false
set_option linter.all false
set_option maxRecDepth 100000
/-! # Catalogs, words, texts compared -/
namespace Lo
open PySem PySem.Spec PyProof.Rows L2 Evl Dv
def subs : List Str → List (List Str)
  | [] => [[]]
  | x :: xs => (subs xs).map (x :: ·) ++ subs xs
theorem sub_mem : ∀ {l w : List Str}, w.Sublist l → w ∈ subs l
  | _, _, .slnil => by simp [subs]
  | _, _, .cons a h => by
    show _ ∈ _ ++ _
    exact List.mem_append_right _ (sub_mem h)
  | _, _, .cons₂ a h => by
    show _ ∈ _ ++ _
    exact List.mem_append_left _ (List.mem_map_of_mem (sub_mem h))
def Wl : List (List Str) := (subs W5).filter fun w => decide (2 ≤ w.length)
theorem wok_mem {w : List Str} (h : Wok w) : w ∈ Wl := List.mem_filter.mpr ⟨sub_mem h.1, decide_eq_true h.2⟩
theorem isf_all {B : Bs} {s : HS} : ∀ n ∈ L6, ∀ w ∈ Wl, g_is_feature B [.str n, wD w] s = .ret (.bl true) s := by
  unfold L6
  repeat' (refine List.forall_mem_cons.2 ⟨?_, ?_⟩)
  all_goals first
    | exact fun _ h => (List.not_mem_nil h).elim
    | exact rfl
theorem asc_all {B : Bs} {s : HS} : ∀ w ∈ subs W5, g_ascends B [wD w] s = .ret (.bl true) s := by
  repeat' (refine List.forall_mem_cons.2 ⟨?_, ?_⟩)
  all_goals first
    | exact fun _ h => (List.not_mem_nil h).elim
    | exact rfl
theorem word_T {B : Bs} {s : HS} : ∀ n ∈ LT, g_is_word B [.str n] s = .ret (.bl true) s := by
  unfold LT
  repeat' (refine List.forall_mem_cons.2 ⟨?_, ?_⟩)
  all_goals first
    | exact fun _ h => (List.not_mem_nil h).elim
    | exact rfl
theorem word_C {B : Bs} {s : HS} : ∀ n ∈ LC, g_is_word B [.str n] s = .ret (.bl true) s := by
  unfold LC
  repeat' (refine List.forall_mem_cons.2 ⟨?_, ?_⟩)
  all_goals first
    | exact fun _ h => (List.not_mem_nil h).elim
    | exact rfl
/-! ### features compared -/
def feP (f : Str × List Str) : PyData := .tuple [.str f.1, .tuple (f.2.map PyData.str)]
theorem pds_fs : ∀ fs : FV, pds (fs.map fD) = some (fs.map feP)
  | [] => rfl
  | f :: r => by
    have e : pd (fD f) = some (feP f) := by
      show (match pd (D.str f.1) with
        | some x => match (match (pds (f.2.map D.str)).map PyData.tuple with
          | some x => (match pds [] with
            | some xs => some (x :: xs)
            | none => none)
          | none => none) with
          | some xs => some (x :: xs)
          | none => none
        | none => none).map PyData.tuple = _
      rw [pds_strs]
      rfl
    show (match pd (fD f) with
      | some x => match pds (r.map fD) with
        | some xs => some (x :: xs)
        | none => none
      | none => none) = _
    rw [e, pds_fs r]
    rfl
def SokF (fs : FV) : Prop := ∀ f ∈ fs, PyData.strOk f.1 = true ∧ Sok f.2
theorem lay_fs : ∀ {fs : FV}, SokF fs → PyData.canLayAll0 (fs.map feP) = true ∧ PyData.depthAll (fs.map feP) ≤ 2
  | [], _ => by simp [PyData.canLayAll0, PyData.depthAll]
  | f :: r, h => by
    obtain ⟨h1, h2⟩ := lay_fs (fs := r) fun x hx => h x (List.mem_cons_of_mem _ hx)
    obtain ⟨h3, h4⟩ := h f (List.mem_cons_self ..)
    obtain ⟨h5, h6⟩ := lay_strs h4
    have k1 : PyData.canLay0 (feP f) = true := by simp [feP, PyData.canLayAll0, PyData.canLay0, h3, h5]
    have k2 : PyData.depth (feP f) ≤ 2 := by simp [feP, PyData.depthAll, PyData.depth, h6]
    rw [List.map_cons]
    rw [PyData.canLayAll0, PyData.depthAll, k1, h1]
    exact ⟨rfl, by omega⟩
theorem eqv_refl_strs (a : List Str) : PyData.eqvAll (a.map PyData.str) (a.map PyData.str) = true := by
  rw [eqvAll_strs]
  simp
theorem eqvAll_fs : ∀ fs : FV, PyData.eqvAll (fs.map feP) (fs.map feP) = true
  | [] => by simp [PyData.eqvAll]
  | f :: r => by
    rw [List.map_cons, PyData.eqvAll, eqvAll_fs r]
    simp [feP, PyData.eqv, PyData.eqvAll, eqv_refl_strs]
theorem eq_ft {fs : FV} {s : HS} {neg : Bool} (h : SokF fs) : eqE neg [] (ftD fs) (ftD fs) s = .ret (.bl (!neg)) s := by
  have p1 : pd (ftD fs) = some (.tuple (fs.map feP)) := by
    show (pds (fs.map fD)).map PyData.tuple = _
    rw [pds_fs]
    rfl
  have p2 : SeqAt.shaped (.tuple (fs.map feP)) = true := by
    obtain ⟨h1, h2⟩ := lay_fs h
    unfold SeqAt.shaped
    rw [PyData.canLay0, PyData.depth, h1, Bool.true_and, decide_eq_true_eq]
    omega
  show Res.opt (eqF neg (ftD fs) (ftD fs)) s = _
  unfold eqF
  rw [p1]
  dsimp only
  rw [if_pos ⟨p2, p2⟩, PyData.eqv, eqvAll_fs]
  cases neg <;> rfl
theorem cat_eq {B : Bs} {fs : FV} {s : HS} (h : SokF fs) : g_Catalog__eq__ B [catD fs, catD fs] s = .ret (.bl true) s := by
  unfold g_Catalog__eq__
  rw [z_fn]
  have hi : isiE isi_Catalog (catD fs) s = .ret (.bl true) s := rfl
  have e := eq_ft (s := s) (neg := false) h
  unfold ftD at e
  simp [p_Catalog__eq__, hi, e]
end Lo

set_option Elab.async false
set_option linter.all false
set_option maxRecDepth 100000
/-! # The catalog of drawn features -/
namespace Lo
open PySem PySem.Spec PyProof.Rows L2 Evl Dv
/-- enumerate from i -/
def enF : Nat → List D → List D
  | _, [] => []
  | i, d :: r => .tup false [.int (i : Nat), d] :: enF (i + 1) r
theorem enu_from : ∀ (ds : List D) (i : Nat), ds.mapIdx (fun j d => D.tup false [.int ((i + j : Nat) : Int), d]) = enF i ds
  | [], _ => rfl
  | d :: r, i => by
    rw [List.mapIdx_cons]
    show _ :: _ = _ :: enF (i + 1) r
    rw [← enu_from r (i + 1)]
    have e : (fun (j : Nat) (d : D) => D.tup false [.int ((i + (j + 1) : Nat) : Int), d]) = fun (j : Nat) (d : D) => D.tup false [.int ((i + 1 + j : Nat) : Int), d] := by
      funext j d
      have : i + (j + 1) = i + 1 + j := by omega
      rw [this]
    rw [e]
    exact rfl
theorem enu_eq (ds : List D) : enuD ds = enF 0 ds := by
  rw [← enu_from ds 0]
  unfold enuD
  have e : (fun (j : Nat) (d : D) => D.tup false [.int (j : Nat), d]) = fun (j : Nat) (d : D) => D.tup false [.int ((0 + j : Nat) : Int), d] := by
    funext j d
    have : 0 + j = j := by omega
    rw [this]
  rw [e]
def cg (B : Bs) : XG B := .tup [(.name B 3), (.tup [(.name B 4), (.name B 5)])]
def ct (B : Bs) : XT B := .or (.ofE (.eq false [] (.var B 3) (.int B 6))) (.or (.ofE (.in false [] (.var B 4) (.var B 2))) (.not (.ofE (.call 2 (g_is_feature B) [(.var B 4), (.var B 5)] rfl))))
def cb (B : Bs) : XS B := .seq (.ite (.view (ct B)) (.rf "InvalidCatalog" ["index"] (by decide) [(.var B 3)] rfl (Nat.le_of_ble_eq_true rfl)) (.pass B)) (.app 2 (.var B 4))
def cΓ (f : D) (ns : List Str) (i : Int) (e : Str × List Str) : Gm := [.io "Catalog" [], .fr f, .lo (sD ns), .fr (.int i), .fr (.str e.1), .fr (wD e.2)]
theorem ct_ev {B : Bs} {f : D} {ns : List Str} {i : Int} {e : Str × List Str} {s : HS} (h1 : i ≠ 6) (h2 : e.1 ∉ ns) (h3 : g_is_feature B [.str e.1, wD e.2] s = .ret (.bl true) s) :
    (XT.view (ct B)).ev (cΓ f ns i e) s = .ret (.bl false) s := by
  refine ev_viewT ?_
  have hg : frzA (cΓ f ns i e) = [.fr (.ins "Catalog" []), .fr f, .fr (.lst (sD ns)), .fr (.int i), .fr (.str e.1), .fr (wD e.2)] := rfl
  rw [hg]
  unfold ct sD
  simp [h1, h2, h3]
theorem good_step {B : Bs} {f : D} {ns : List Str} {i : Int} {e : Str × List Str} {s : HS} (h1 : i ≠ 6) (h2 : e.1 ∉ ns) (h3 : g_is_feature B [.str e.1, wD e.2] s = .ret (.bl true) s) (hl : ns.length ≤ 1000) :
    (cb B).ev (cΓ f ns i e) s = .nxt (cΓ f (ns ++ [e.1]) i e) s := by
  have t := ct_ev (B := B) (f := f) (ns := ns) (i := i) h1 h2 h3
  unfold cb
  rw [ev_seq (ev_iteF t)]
  refine (ev_app (ds := sD ns) (d := .str e.1) rfl (by simp [sD]; omega) (ev_var rfl)).trans ?_
  show Out.nxt [_, _, .lo (sD ns ++ [.str e.1]), _, _, _] s = Out.nxt [_, _, .lo (sD (ns ++ [e.1])), _, _, _] s
  unfold sD
  rw [List.map_append]
  exact rfl
theorem cat_loop {B : Bs} {f : D} {s : HS} : ∀ (es : FV) (i : Nat) (ns : List Str) (a b c : Sl), i + es.length ≤ 6 → ns.length = i → (ns ++ es.map (·.1)).Nodup → (∀ e ∈ es, g_is_feature B [.str e.1, wD e.2] s = .ret (.bl true) s) →
    ∃ a' b' c', forL (cg B) (cb B).ev (enF i (es.map fD)) [.io "Catalog" [], .fr f, .lo (sD ns), a, b, c] s = .nxt [.io "Catalog" [], .fr f, .lo (sD (ns ++ es.map (·.1))), a', b', c'] s
  | [], i, ns, a, b, c, _, _, _, _ => ⟨a, b, c, by
    show Out.nxt [_, _, .lo (sD ns), _, _, _] s = Out.nxt [_, _, .lo (sD (ns ++ [])), _, _, _] s
    rw [List.append_nil]⟩
  | e :: r, i, ns, a, b, c, h6, hi, hn, hf => by
    have hlen : (e :: r).length = r.length + 1 := rfl
    have hne : e.1 ∉ ns := fun z => by
      have := (List.nodup_append.mp hn).2.2 e.1 z e.1 (by simp)
      exact this rfl
    obtain ⟨a', b', c', e2⟩ := cat_loop (B := B) (f := f) (s := s) r (i + 1) (ns ++ [e.1]) (.fr (.int (i : Nat))) (.fr (.str e.1)) (.fr (wD e.2)) (by omega) (by simp [hi]) (by rw [List.append_assoc]; exact hn) fun x hx => hf x (List.mem_cons_of_mem _ hx)
    refine ⟨a', b', c', ?_⟩
    rw [List.append_assoc] at e2
    refine (for_cons (l := [(3, .int (i : Nat)), (4, .str e.1), (5, wD e.2)]) rfl (good_step (f := f) (i := (i : Nat)) (by omega) hne (hf e (List.mem_cons_self ..)) (by omega))).trans e2
theorem enu_ev {B : Bs} {Γ : Gm} {pl : Bool} {ds : List D} {s : HS} (h : Γ[1]? = some (.fr (.tup pl ds))) : (XI.enu (XE.var B 1)).ev Γ s = .ret (.lst (enF 0 ds)) s := by
  show ((XE.var B 1).ev Γ s).bind _ = _
  rw [ev_var h]
  show Res.ret (.lst (enuD ds)) s = _
  rw [enu_eq]
theorem head_ev {B : Bs} {pl : Bool} {ds : List D} {s : HS} (h : 1 ≤ ds.length) : (XS.ite (.ofE (.eq false [] (.len [] (.var B 1)) (.int B 0))) (.rf "InvalidCatalog" ["index"] (by decide) [(.int B 0)] rfl (Nat.le_of_ble_eq_true rfl)) (.pass B)).ev [.io "Catalog" [], .fr (.tup pl ds), .no, .no, .no, .no] s = .nxt [.io "Catalog" [], .fr (.tup pl ds), .no, .no, .no, .no] s := by
  have h0 : ¬ ((ds.length : Nat) : Int) = 0 := by omega
  refine ev_iteF ?_
  simp only [z_ofE, z_eq, z_len, z_var, z_cst, List.getElem?_cons_succ, List.getElem?_cons_zero, z_get, z_bind, z_lenT, eq_ints, z_tst, decide_eq_false h0]
  rfl
theorem setF_ev {B : Bs} {Γ : Gm} {p : XE B} {c f : Str} {i : Nat} {fs : List (Str × D)} {d : D} {s s1 : HS} (h : Γ[i]? = some (.io c fs)) (hl : fs.length < 1000) (hp : p.ev Γ s = .ret d s1) : (XS.setF c f i p).ev Γ s = .nxt (Γ.set i (.io c (putD f d fs))) s1 := by
  show (match (Γ[i]? : Option Sl) with
    | some (.io c' fs) => if c' = c ∧ fs.length < 1000 then (p.ev Γ s).out Γ fun d s1 => Out.nxt (Γ.set i (.io c (putD f d fs))) s1 else .stuck
    | _ => .stuck) = _
  rw [h]
  show (if c = c ∧ fs.length < 1000 then (p.ev Γ s).out Γ fun d s1 => Out.nxt (Γ.set i (.io c (putD f d fs))) s1 else .stuck) = _
  rw [if_pos ⟨rfl, hl⟩, hp]
  exact rfl
theorem ini_ok {B : Bs} {p : XS B} {c : Str} {m : Nat} {ds : List D} {s s' : HS} {fs : List (Str × D)} {Γ' : Gm} (h : p.ev (.io c [] :: (ds.map Sl.fr ++ List.replicate (m - (ds.length + 1)) Sl.no)) s = .nxt (.io c fs :: Γ') s') : p.ini c m ds s = .ret (.ins c fs) s' := by
  unfold XS.ini
  rw [h]
  exact if_pos rfl
theorem dic_ft {fs : FV} (h : (fs.map (·.1)).Nodup) : dicA [ftD fs] = some (fs.map (encK wD)) := by
  show (prsD (fs.map fD)).map (mergeD []) = _
  rw [prs_fD]
  have m := merge_enc (f := wD) fs [] (by simpa using h)
  rw [List.map_nil] at m
  show some (mergeD [] (fs.map (encK wD))) = _
  rw [m]
  rfl
theorem cat_init {B : Bs} {fs : FV} {s : HS} (hp : 1 ≤ fs.length) (hl : fs.length ≤ 6) (hn : (fs.map (·.1)).Nodup) (hi : ∀ e ∈ fs, g_is_feature B [.str e.1, wD e.2] s = .ret (.bl true) s) : g_Catalog__init__ B [ftD fs] s = .ret (catD fs) s := by
  obtain ⟨a, b, c, e1⟩ := cat_loop (B := B) (f := ftD fs) (s := s) fs 0 [] .no .no .no (by omega) rfl (by simpa using hn) hi
  refine ini_ok (fs := [("_features", ftD fs), ("_values", .dic true (fs.map (encK wD)))]) (Γ' := [.fr (ftD fs), .lo (sD ([] ++ fs.map (·.1))), a, b, c]) ?_
  show (p_Catalog__init__ B).ev [.io "Catalog" [], .fr (ftD fs), .no, .no, .no, .no] s = _
  unfold p_Catalog__init__
  refine (ev_seq (s1 := s) (head_ev (pl := true) (ds := fs.map fD) (by simpa using hp))).trans ?_
  have e0 : (XS.setN 2 (XN.lst (B := B) [])).ev [.io "Catalog" [], .fr (ftD fs), .no, .no, .no, .no] s = .nxt [.io "Catalog" [], .fr (ftD fs), .lo [], .no, .no, .no] s := rfl
  refine (ev_seq (s1 := s) e0).trans ?_
  have e2 : (XS.for (.enu (.var B 1)) (cg B) (cb B)).ev [.io "Catalog" [], .fr (ftD fs), .lo [], .no, .no, .no] s = .nxt [.io "Catalog" [], .fr (ftD fs), .lo (sD ([] ++ fs.map (·.1))), a, b, c] s := by
    rw [ev_for (enu_ev (pl := true) (ds := fs.map fD) rfl)]
    exact e1
  refine (ev_seq (a := XS.for (.enu (.var B 1)) (cg B) (cb B)) e2).trans ?_
  refine (ev_seq (s1 := s) (setF_ev (fs := []) (d := ftD fs) rfl (by decide) (ev_var rfl))).trans ?_
  have hd := dic_ft (fs := fs) hn
  refine (setF_ev (fs := [("_features", ftD fs)]) (d := .dic true (fs.map (encK wD))) (s1 := s) rfl (by show 1 < 1000; decide) ?_).trans rfl
  simp only [z_ofD, z_dblt, z_evs, z_evs0, z_var, List.set_cons_zero, List.getElem?_cons_succ, List.getElem?_cons_zero, z_get, z_bind, od_f, hd, z_dctE]
end Lo

set_option Elab.async false
set_option linter.all false
set_option maxRecDepth 100000
/-! # Notes made -/
namespace Lo
open PySem PySem.Spec PyProof.Rows L2 Evl Dv
theorem bls_map {α : Type} {f : α → Bool} : ∀ l : List α, blsOf (l.map fun x => D.bl (f x)) = some (l.map f)
  | [] => rfl
  | x :: r => by
    show (blsOf (r.map fun x => D.bl (f x))).map (f x :: ·) = _
    rw [bls_map r]
    rfl
theorem f_allT {B : Bs} {α : Type} {l : List α} : (o_all B).f [.lst (l.map fun _ => D.bl true)] = some (.bl true) := by
  show (blsOf (l.map fun _ => D.bl true)).map _ = _
  rw [bls_map (f := fun _ => true)]
  simp
theorem keys_enc {α : Type} {f : α → D} {l : List (Str × α)} : keysD (l.map (encK f)) = (l.map (·.1)).map D.str := by
  unfold keysD
  rw [List.map_map, List.map_map]
  rfl
section
variable {B : Bs} {s : HS} {fs vs ch : FV} {w u : List Str} {x : Str}
theorem choice_ok (h1 : w.Sublist u) (h2 : u.Sublist W5) (h3 : w ≠ []) : g_is_choice B [wD w, wD u] s = .ret (.bl true) s := by
  have hl : w.length ≤ 5 := (h1.trans h2).length_le
  have hp : 0 < w.length := List.length_pos_iff.mpr h3
  have ha := asc_all (B := B) (s := s) w (sub_mem (h1.trans h2))
  have e := lc_pure (Γ := [.fr (wD w), .fr (wD u), .no]) (s := s) (vs := [2]) (as := (XG.name B 2).as) (tt := (XT.yes B).ev) (ee := (XE.in false [] (.var B 2) (.var B 1)).ev) (enc := D.str) (l := fun x => [(2, .str x)]) (P := fun _ => true) (f := fun _ => .bl true) w
    (fun _ _ => rfl) (fun _ _ => rfl) (fun _ _ => rfl) (fun x hx _ => by simp [h1.subset hx])
  rw [List.filter_eq_self.mpr fun _ _ => rfl] at e
  unfold g_is_choice
  rw [z_fn]
  have hpI : (0 : Int) < ((w.length : Nat) : Int) := by omega
  simp [p_is_choice, ha, hpI, hp, wipeG, e, f_allT, show w.length ≤ 100000 by omega]
theorem cat_has : g_Catalog__contains__ B [catD fs, .str x] s = .ret (.bl (getS fs x).isSome) s := by
  unfold g_Catalog__contains__
  rw [z_fn]
  simp [p_Catalog__contains__, any_enc]
theorem getS_mem {α : Type} : ∀ {l : List (Str × α)} {x : Str} {v : α}, (l.map (·.1)).Nodup → (x, v) ∈ l → getS l x = some v
  | [], _, _, _, h => nomatch h
  | p :: l, x, v, hn, h => by
    unfold getS
    rw [List.find?_cons]
    rw [List.map_cons, List.nodup_cons] at hn
    rcases List.mem_cons.mp h with h | h
    · subst h
      simp
    · have hne : ¬ p.1 = x := fun z => hn.1 (List.mem_map.mpr ⟨(x, v), h, z.symm⟩)
      rw [decide_eq_false hne]
      exact getS_mem hn.2 h
theorem getS_none {α : Type} {l : List (Str × α)} (h : x ∉ l.map (·.1)) : getS l x = none := by
  unfold getS
  rw [List.find?_eq_none.mpr fun p hp => ?_]
  · rfl
  · simp
    exact fun z => h (List.mem_map.mpr ⟨p, hp, z⟩)
/-- chosen values, or all -/
def dfl (ch fs : FV) : FV := fs.map fun f => (f.1, (getS ch f.1).getD f.2)
def nbB (B : Bs) : XS B := .ite ((.and (.ofE (.in false [("Catalog", g_Catalog__contains__ B)] (.var B 4) (.var B 2))) (.not (.ofE (.call 2 (g_is_choice B) [(.ix [] (.var B 2) (.var B 4)), (.var B 5)] rfl))))) (.rf "InvalidNote" ["feature"] (by decide) [(.var B 4)] rfl (Nat.le_of_ble_eq_true rfl)) (.pass B)
theorem note_loop {a0 a1 a3 : Sl} : ∀ (es : FV) (x4 x5 : Sl), (∀ f ∈ es, f.2.Sublist W5 ∧ ∀ w, getS ch f.1 = some w → w.Sublist f.2 ∧ w ≠ []) →
    ∃ y4 y5, forL (XG.tup [XG.name B 4, XG.name B 5]) (nbB B).ev (es.map fD) [a0, a1, .fr (.dic true (ch.map (encK wD))), a3, x4, x5] s = .nxt [a0, a1, .fr (.dic true (ch.map (encK wD))), a3, y4, y5] s
  | [], x4, x5, _ => ⟨x4, x5, rfl⟩
  | f :: es, x4, x5, h => by
    obtain ⟨h1, h2⟩ := h f (List.mem_cons_self ..)
    obtain ⟨y4, y5, e⟩ := note_loop (a0 := a0) (a1 := a1) (a3 := a3) es (.fr (.str f.1)) (.fr (wD f.2)) fun g hg => h g (List.mem_cons_of_mem _ hg)
    refine ⟨y4, y5, (for_cons (l := [(4, .str f.1), (5, wD f.2)]) (by simp [fD]) ?_).trans e⟩
    show (nbB B).ev [a0, a1, .fr (.dic true (ch.map (encK wD))), a3, .fr (.str f.1), .fr (wD f.2)] s = _
    unfold nbB
    cases hg : getS ch f.1 with
    | none => simp [any_enc, hg]
    | some w =>
      obtain ⟨k1, k2⟩ := h2 w hg
      simp [any_enc, lookK_enc, hg, choice_ok k1 h1 k2]
theorem note_init (hn : (fs.map (·.1)).Nodup) (hl : fs.length ≤ 6) (hcl : ch.length ≤ 6) (hsub : ∀ p ∈ ch, (getS fs p.1).isSome = true) (hch : ∀ f ∈ fs, f.2.Sublist W5 ∧ ∀ w, getS ch f.1 = some w → w.Sublist f.2 ∧ w ≠ []) :
    g_Note__init__ B [catD fs, .dic true (ch.map (encK wD))] s = .ret (noteD fs (dfl ch fs)) s := by
  obtain ⟨y4, y5, e2⟩ := note_loop (B := B) (s := s) (ch := ch) (a0 := .io "Note" []) (a1 := .fr (catD fs)) (a3 := .fr (.lst [])) fs .no .no hch
  refine ini_ok (fs := [("_catalog", catD fs), ("_values", .dic true ((dfl ch fs).map (encK wD)))]) (Γ' := [.fr (catD fs), .fr (.dic true (ch.map (encK wD))), .fr (.lst []), y4, y5]) ?_
  show (p_Note__init__ B).ev [.io "Note" [], .fr (catD fs), .fr (.dic true (ch.map (encK wD))), .no, .no, .no] s = _
  have e1 := lc_pure (Γ := [.io "Note" [], .fr (catD fs), .fr (.dic true (ch.map (encK wD))), .no, .no, .no]) (s := s) (vs := [4]) (as := (XG.name B 4).as) (tt := (XT.ofE (.in true [("Catalog", g_Catalog__contains__ B)] (.var B 4) (.var B 1))).ev) (ee := (XE.var B 4).ev) (enc := D.str) (l := fun x => [(4, .str x)]) (P := fun _ => false) (f := D.str) (ch.map (·.1))
    (fun _ _ => rfl) (fun _ _ => rfl) (fun x hx => by
      obtain ⟨p, hp, rfl⟩ := List.mem_map.mp hx
      simp [cat_has, hsub p hp]) (fun _ _ h => nomatch h)
  have hf : ((ch.map (·.1)).filter fun _ => false) = [] := List.filter_eq_nil_iff.mpr fun _ _ h => nomatch h
  rw [hf, List.map_nil] at e1
  unfold p_Note__init__
  refine (ev_seq (Γ1 := [.io "Note" [], .fr (catD fs), .fr (.dic true (ch.map (encK wD))), .fr (.lst []), .no, .no]) (s1 := s) ?_).trans ?_
  · refine (ev_set (ev_lc (s1 := s) (ds := (ch.map (·.1)).map D.str) ?_ (by simp; omega) e1)).trans rfl
    simp [keys_enc]
  refine (ev_seq (Γ1 := [.io "Note" [], .fr (catD fs), .fr (.dic true (ch.map (encK wD))), .fr (.lst []), .no, .no]) (s1 := s) ?_).trans ?_
  · refine ev_iteF ?_
    simp
  refine (ev_seq (s1 := s) ((z_for).trans (Eq.trans ?_ e2))).trans ?_
  · simp [nbB]
  refine (ev_seq (s1 := s) (setF_ev (fs := []) (d := catD fs) rfl (by decide) rfl)).trans ?_
  have e3 := dc_pure (Γ := [.io "Note" [("_catalog", catD fs)], .fr (catD fs), .fr (.dic true (ch.map (encK wD))), .fr (.lst []), .no, .no]) (s := s) (vs := [4, 5]) (as := (XG.tup [XG.name B 4, XG.name B 5]).as) (tt := (XT.yes B).ev) (ek := (XE.var B 4).ev) (ee := (XE.get2 (.var B 2) (.var B 4) (.var B 5)).ev) (enc := fD) (l := fun f => [(4, .str f.1), (5, wD f.2)]) (P := fun _ => true) (k := fun f => f.1) (f := fun f => wD ((getS ch f.1).getD f.2)) fs []
    (fun f _ => by simp [fD]) (fun _ _ => rfl) (fun _ _ => rfl) (fun _ _ _ => by simp) (fun f _ _ => by
      simp [lookK_enc]) (fun _ _ _ h => nomatch h) (by rw [List.filter_eq_self.mpr fun _ _ => rfl]; exact hn)
  rw [List.filter_eq_self.mpr fun _ _ => rfl, List.nil_append] at e3
  have hm : (fs.map fun f => ((Sum.inr f.1 : Key), wD ((getS ch f.1).getD f.2))) = (dfl ch fs).map (encK wD) := by
    unfold dfl
    rw [List.map_map]
    rfl
  rw [hm] at e3
  refine (setF_ev (fs := [("_catalog", catD fs)]) (d := .dic true ((dfl ch fs).map (encK wD))) (s1 := s) rfl (by show 1 < 1000; decide) ?_).trans rfl
  have hp : putD ("_catalog" : Str) (catD fs) [] = [(("_catalog" : Str), catD fs)] := rfl
  simp only [z_ofD, z_dc, z_wk, z_at, z_var, List.set_cons_zero, List.getElem?_cons_succ, List.getElem?_cons_zero, z_get, z_bind, at_cat, cat_features, z_wkT, z_bindL, List.length_map, show fs.length ≤ 100000 by omega, if_true, wipeG, hp]
  simp only [List.foldl_cons, List.foldl_nil, List.set_cons_succ, List.set_cons_zero]
  rw [e3]
  rfl
end
end Lo

set_option Elab.async false
set_option linter.all false
set_option maxRecDepth 100000
/-! # Notes, things and claims of what was drawn -/
namespace Lo
open PySem PySem.Spec PyProof.Rows L2 Evl Dv
section
variable {B : Bs} {Γ : Gm} {s s1 s2 s3 s4 : HS} {c : Str} {g : Gf} {p q r t : XE B} {d e f z : D} {R : Res}
theorem ev_make1 {h1 h2} (hp : p.ev Γ s = .ret d s1) (hg : g [d] s1 = R) : (XE.make c 1 g [p] h1 h2).ev Γ s = R := by
  show (p.ev Γ s).bind _ = _
  rw [hp]
  exact hg
theorem ev_make2 {h1 h2} (hp : p.ev Γ s = .ret d s1) (hq : q.ev Γ s1 = .ret e s2) (hg : g [d, e] s2 = R) : (XE.make c 2 g [p, q] h1 h2).ev Γ s = R := by
  show (p.ev Γ s).bind _ = _
  rw [hp]
  show (q.ev Γ s1).bind _ = _
  rw [hq]
  exact hg
theorem ev_make3 {h1 h2} (hp : p.ev Γ s = .ret d s1) (hq : q.ev Γ s1 = .ret e s2) (hr : r.ev Γ s2 = .ret f s3) (hg : g [d, e, f] s3 = R) : (XE.make c 3 g [p, q, r] h1 h2).ev Γ s = R := by
  show (p.ev Γ s).bind _ = _
  rw [hp]
  show (q.ev Γ s1).bind _ = _
  rw [hq]
  show (r.ev Γ s2).bind _ = _
  rw [hr]
  exact hg
theorem ev_make4 {h1 h2} (hp : p.ev Γ s = .ret d s1) (hq : q.ev Γ s1 = .ret e s2) (hr : r.ev Γ s2 = .ret f s3) (ht : t.ev Γ s3 = .ret z s4) (hg : g [d, e, f, z] s4 = R) : (XE.make c 4 g [p, q, r, t] h1 h2).ev Γ s = R := by
  show (p.ev Γ s).bind _ = _
  rw [hp]
  show (q.ev Γ s1).bind _ = _
  rw [hq]
  show (r.ev Γ s2).bind _ = _
  rw [hr]
  show (t.ev Γ s3).bind _ = _
  rw [ht]
  exact hg
end
section
variable {B : Bs} {s : HS} {fs vs : FV} {w u : List Str} {x : Str}
theorem vs_at : ∀ {fs vs : FV}, Vs fs vs → (fs.map (·.1)).Nodup → ∀ f ∈ fs, ∃ w, getS vs f.1 = some w ∧ w.Sublist f.2 ∧ w ≠ []
  | [], [], _, _, _, h => nomatch h
  | f :: fs, v :: vs, h, hn, g, hg => by
    obtain ⟨⟨h1, h2, h3⟩, h4⟩ := h
    rw [List.map_cons, List.nodup_cons] at hn
    unfold getS
    rw [List.find?_cons]
    rcases List.mem_cons.mp hg with hg | hg
    · subst hg
      rw [h1]
      simp
      exact ⟨h2, h3⟩
    · have hne : ¬ v.1 = g.1 := fun z => hn.1 (List.mem_map.mpr ⟨g, hg, by rw [← z, h1]⟩)
      rw [decide_eq_false hne]
      exact vs_at h4 hn.2 g hg
def chg (fs vs : FV) : FV := (fs.filter fun f => !decide (va vs f.1 = f.2)).map fun f => (f.1, va vs f.1)
theorem chg_names : (chg fs vs).map (·.1) = (fs.filter fun f => !decide (va vs f.1 = f.2)).map (·.1) := by
  unfold chg
  rw [List.map_map]
  rfl
theorem chg_nd (hn : (fs.map (·.1)).Nodup) : ((chg fs vs).map (·.1)).Nodup := by
  rw [chg_names]
  exact hn.sublist (List.filter_sublist.map _)
theorem chg_get (hn : (fs.map (·.1)).Nodup) {f : Str × List Str} (hf : f ∈ fs) : getS (chg fs vs) f.1 = if va vs f.1 = f.2 then none else some (va vs f.1) := by
  by_cases h : va vs f.1 = f.2
  · rw [if_pos h]
    refine getS_none fun z => ?_
    rw [chg_names] at z
    obtain ⟨g, hg, e⟩ := List.mem_map.mp z
    obtain ⟨hg1, hg2⟩ := List.mem_filter.mp hg
    have k1 := getS_mem hn (x := f.1) (v := f.2) hf
    have k2 := getS_mem hn (x := g.1) (v := g.2) hg1
    rw [e, k1] at k2
    have k3 := Option.some.inj k2
    rw [e, ← k3, h] at hg2
    simp at hg2
  · rw [if_neg h]
    refine getS_mem (chg_nd hn) ?_
    exact List.mem_map.mpr ⟨f, List.mem_filter.mpr ⟨hf, by simp [h]⟩, rfl⟩
theorem dfl_chg (h : Vs fs vs) (hn : (fs.map (·.1)).Nodup) : dfl (chg fs vs) fs = vs := by
  have e1 : dfl (chg fs vs) fs = fs.map fun f => (f.1, va vs f.1) := by
    unfold dfl
    refine List.map_congr_left fun f hf => ?_
    rw [chg_get hn hf]
    by_cases h : va vs f.1 = f.2
    · simp [h]
    · simp [h]
  have hv : (vs.map (·.1)).Nodup := by rw [h.names]; exact hn
  have e2 : (fs.map fun f => (f.1, va vs f.1)) = (fs.map (·.1)).map fun n => (n, va vs n) := by rw [List.map_map]; rfl
  rw [e1, e2, ← h.names, List.map_map]
  have e3 : vs.map ((fun n => (n, va vs n)) ∘ fun x => x.1) = vs.map id := List.map_congr_left fun v hv2 => by
    have := getS_mem hv (x := v.1) (v := v.2) hv2
    simp [va, this]
  rw [e3, List.map_id]
theorem law_note (h : Vs fs vs) (hn : (fs.map (·.1)).Nodup) (hf : Fs fs) (hl : fs.length ≤ 6) : g__law_note B [catD fs, ftD fs, .dic true (vs.map (encK wD))] s = .ret (noteD fs vs) s := by
  have e := lc_pure (Γ := [.fr (catD fs), .fr (ftD fs), .fr (.dic true (vs.map (encK wD))), .no, .no]) (s := s) (vs := [3, 4]) (as := (XG.tup [XG.name B 3, XG.name B 4]).as) (tt := (XT.ofE (.eq true [] (.ix [] (.var B 2) (.var B 3)) (.var B 4))).ev) (ee := (XE.tup [(.var B 3), (.ix [] (.var B 2) (.var B 3))]).ev) (enc := fD) (l := fun f => [(3, .str f.1), (4, wD f.2)]) (P := fun f => !decide (va vs f.1 = f.2)) (f := fun f => fD (f.1, va vs f.1)) fs
    (fun f _ => by simp [fD]) (fun _ _ => rfl) (fun f hf1 => by
      obtain ⟨w, h1, h2, _⟩ := vs_at h hn f hf1
      have hw := (hf f hf1).1
      simp [lookK_enc, h1, va, eq_wD (sok5.sub (h2.trans hw)) (sok5.sub hw)]) (fun f hf1 _ => by
      obtain ⟨w, h1, h2, _⟩ := vs_at h hn f hf1
      simp [lookK_enc, h1, va, fD])
  have hm : (fs.filter fun f => !decide (va vs f.1 = f.2)).map (fun f => fD (f.1, va vs f.1)) = (chg fs vs).map fD := by
    unfold chg
    rw [List.map_map]
    rfl
  rw [hm] at e
  have hd := dic_fD (vs := chg fs vs) (chg_nd hn)
  have hcl : (chg fs vs).length ≤ 6 := by
    unfold chg
    rw [List.length_map]
    exact Nat.le_trans (List.length_filter_le _ _) hl
  have hi := note_init (B := B) (s := s) (fs := fs) (ch := chg fs vs) hn hl hcl (fun p hp => by
    unfold chg at hp
    obtain ⟨f, hf1, rfl⟩ := List.mem_map.mp hp
    have := getS_mem hn (x := f.1) (v := f.2) (List.mem_filter.mp hf1).1
    rw [this]
    rfl) (fun f hf1 => ⟨(hf f hf1).1, fun w hw => by
      rw [chg_get hn hf1] at hw
      obtain ⟨w', h1, h2, h3⟩ := vs_at h hn f hf1
      have hva : va vs f.1 = w' := by simp [va, h1]
      by_cases z : va vs f.1 = f.2
      · rw [if_pos z] at hw; cases hw
      · rw [if_neg z, hva] at hw
        cases hw
        exact ⟨h2, h3⟩⟩)
  rw [dfl_chg h hn] at hi
  have hlc : (XE.ofN (XN.lc (.wk (.var B 1)) (.tup [(.name B 3), (.name B 4)]) (.ofE (.eq true [] (.ix [] (.var B 2) (.var B 3)) (.var B 4))) (.tup [(.var B 3), (.ix [] (.var B 2) (.var B 3))]) [3, 4])).ev [.fr (catD fs), .fr (ftD fs), .fr (.dic true (vs.map (encK wD))), .no, .no] s = .ret (.lst ((chg fs vs).map fD)) s := ev_lc (s1 := s) (ds := fs.map fD) (by simp) (by simp; omega) e
  simp only [z_ofN] at hlc
  have main : (p__law_note B).ev [.fr (catD fs), .fr (ftD fs), .fr (.dic true (vs.map (encK wD))), .no, .no] s = .ret (noteD fs vs) s := by
    unfold p__law_note
    refine ev_ret (ev_make2 (d := catD fs) (e := .dic true ((chg fs vs).map (encK wD))) (s1 := s) (s2 := s) rfl ?_ hi)
    simp only [z_ofD, z_dblt, z_evs, z_evs0, z_ofN, hlc, z_bind, od_f, hd, z_dctE]
  unfold g__law_note
  rw [z_fn]
  exact congrArg Out.res main
theorem in_range {i a b : Int} (h1 : a ≤ i) (h2 : i ≤ b) : g_in_range B [.int i, .int a, .int b] s = .ret (.bl true) s := by
  unfold g_in_range
  rw [z_fn]
  have hi : isiE isi_bool (.int i) s = .ret (.bl false) s := rfl
  have hc : (XE.chain (o_le B) (o_le B) (.var B 1) (.var B 0) (.var B 2)).ev [.fr (.int i), .fr (.int a), .fr (.int b)] s = .ret (.bl true) s := by
    unfold XE.chain
    dsimp only
    simp [h1, h2]
  simp [p_in_range, hi, hc]
theorem thing_init {n : D} {i : Int} (h1 : 0 ≤ i) (h2 : i ≤ 1000000000000000000) : g_Thing__init__ B [n, .int i] s = .ret (.ins "Thing" [("_note", n), ("_day", .int i)]) s := by
  refine ini_ok (Γ' := [.fr n, .fr (.int i)]) ?_
  show (p_Thing__init__ B).ev [.io "Thing" [], .fr n, .fr (.int i)] s = _
  unfold p_Thing__init__
  refine (ev_seq (Γ1 := [.io "Thing" [], .fr n, .fr (.int i)]) (s1 := s) (ev_iteF ?_)).trans ?_
  · simp [in_range (B := B) (s := s) h1 h2]
  refine (ev_seq (s1 := s) (setF_ev (fs := []) (d := n) rfl (by decide) rfl)).trans ?_
  exact (setF_ev (fs := [("_note", n)]) (d := .int i) (s1 := s) rfl (by show 1 < 1000; decide) rfl).trans rfl
theorem claim_init {n : D} {i : Int} {k : Nat} {wo : Int} (h1 : 0 ≤ i) (h2 : i ≤ 1000000000000000000) (h3 : k ≤ 2) (h4 : 1 ≤ wo) (h5 : wo ≤ 1000000000) : g_Claim__init__ B [n, .int i, .int (k : Nat), .int wo] s = .ret (.ins "Claim" [("_note", n), ("_day", .int i), ("_slips", .int (k : Nat)), ("_worth", .int wo)]) s := by
  refine ini_ok (Γ' := [.fr n, .fr (.int i), .fr (.int (k : Nat)), .fr (.int wo)]) ?_
  show (p_Claim__init__ B).ev [.io "Claim" [], .fr n, .fr (.int i), .fr (.int (k : Nat)), .fr (.int wo)] s = _
  unfold p_Claim__init__
  refine (ev_seq (Γ1 := [.io "Claim" [], .fr n, .fr (.int i), .fr (.int (k : Nat)), .fr (.int wo)]) (s1 := s) (ev_iteF ?_)).trans ?_
  · simp [in_range (B := B) (s := s) h1 h2]
  refine (ev_seq (Γ1 := [.io "Claim" [], .fr n, .fr (.int i), .fr (.int (k : Nat)), .fr (.int wo)]) (s1 := s) (ev_iteF ?_)).trans ?_
  · simp [in_range (B := B) (s := s) (i := (k : Nat)) (a := 0) (b := 2) (by omega) (by omega)]
  refine (ev_seq (Γ1 := [.io "Claim" [], .fr n, .fr (.int i), .fr (.int (k : Nat)), .fr (.int wo)]) (s1 := s) (ev_iteF ?_)).trans ?_
  · simp [in_range (B := B) (s := s) h4 h5]
  refine (ev_seq (s1 := s) (setF_ev (fs := []) (d := n) rfl (by decide) rfl)).trans ?_
  refine (ev_seq (s1 := s) (setF_ev (fs := [("_note", n)]) (d := .int i) rfl (by show 1 < 1000; decide) rfl)).trans ?_
  refine (ev_seq (s1 := s) (setF_ev (fs := [("_note", n), ("_day", .int i)]) (d := .int (k : Nat)) rfl (by show 2 < 1000; decide) rfl)).trans ?_
  exact (setF_ev (fs := [("_note", n), ("_day", .int i), ("_slips", .int (k : Nat))]) (d := .int wo) (s1 := s) rfl (by show 3 < 1000; decide) rfl).trans rfl
end
end Lo

set_option Elab.async false
set_option linter.all false
set_option maxRecDepth 100000
/-! # The office of what was drawn -/
namespace Lo
open PySem PySem.Spec PyProof.Rows L2 Evl Dv
theorem kstrs_enc {α : Type} {f : α → D} : ∀ l : List (Str × α), kstrs (l.map (encK f)) = some (l.map (·.1))
  | [] => rfl
  | p :: r => by
    show (kstrs (r.map (encK f))).map (p.1 :: ·) = _
    rw [kstrs_enc r]
    rfl
theorem sorted_enc {B : Bs} {α : Type} {f : α → D} {l : List (Str × α)} (h : sortS (l.map (·.1)) = l.map (·.1)) (hl : l.length < 64) : (o_sorted B).f [.dic true (l.map (encK f))] = some (.lst ((l.map (·.1)).map D.str)) := by
  show srtS (kstrs (l.map (encK f))) = _
  rw [kstrs_enc]
  show (if (l.map (·.1)).length < 64 then some (D.lst ((sortS (l.map (·.1))).map D.str)) else none) = _
  rw [if_pos (by rw [List.length_map]; exact hl), h]
abbrev ATN (B : Bs) : Ats := [("Thing", .prop (g_Thing_note B)), ("Claim", .prop (g_Claim_note B))]
def ckB (B : Bs) : XS B := .ite ((.or (.not (.ofE (.call 1 (g_is_word B) [(.var B 5)] rfl))) (.or (.ofE (.eq true [("Catalog", g_Catalog__eq__ B)] (.at [("Note", .prop (g_Note_catalog B))] "catalog" (.at [("Thing", .prop (g_Thing_note B)), ("Claim", .prop (g_Claim_note B))] "note" (.ix [] (.var B 2) (.var B 5)))) (.var B 1))) (.ofE (.in false [] (.var B 5) (.var B 3)))))) (.rf "InvalidOffice" ["part", "label"] (by decide) [(.var B 0), (.var B 5)] rfl (Nat.le_of_ble_eq_true rfl)) (.pass B)
section
variable {B : Bs} {s : HS} {fs : FV} {α β : Type} {f : α → D} {g : β → D} {v : α → FV} {l : List (Str × α)} {m : List (Str × β)}
theorem ck_loop {a0 a4 : Sl} (hat : ∀ (a : α) (s : HS), atE (ATN B) "note" (f a) s = .ret (noteD fs (v a)) s) (hk : SokF fs) : ∀ (ns : List Str) (x5 : Sl), (∀ n ∈ ns, g_is_word B [.str n] s = .ret (.bl true) s ∧ (∃ a, getS l n = some a) ∧ getS m n = none) →
    ∃ y5, forL (XG.name B 5) (ckB B).ev (ns.map D.str) [a0, .fr (catD fs), .fr (.dic true (l.map (encK f))), .fr (.dic true (m.map (encK g))), a4, x5] s = .nxt [a0, .fr (catD fs), .fr (.dic true (l.map (encK f))), .fr (.dic true (m.map (encK g))), a4, y5] s
  | [], x5, _ => ⟨x5, rfl⟩
  | n :: ns, x5, h => by
    obtain ⟨h1, ⟨a, h2⟩, h3⟩ := h n (List.mem_cons_self ..)
    obtain ⟨y5, e⟩ := ck_loop (a0 := a0) (a4 := a4) hat hk ns (.fr (.str n)) fun k hk => h k (List.mem_cons_of_mem _ hk)
    refine ⟨y5, (for_cons (l := [(5, .str n)]) rfl ?_).trans e⟩
    show (ckB B).ev [a0, .fr (catD fs), .fr (.dic true (l.map (encK f))), .fr (.dic true (m.map (encK g))), a4, .fr (.str n)] s = _
    unfold ckB
    have hat2 := hat a s
    unfold ATN at hat2
    simp only [z_ite, z_tor, z_tnot, z_ofE, z_call, z_evs, z_evs0, z_var, List.getElem?_cons_succ, List.getElem?_cons_zero, z_get, z_bind, h1, z_tst, z_bindB, z_eq, z_at, z_ix, z_ixD, z_ixFD, lookK_enc, h2, Option.map_some, z_opt, hat2, at_note, note_catalog, eq_cat, cat_eq hk, z_in, z_inD, any_enc, h3, z_outB, z_pass]
    simp [h3]
theorem check_ok {part : Str} (hat : ∀ (a : α) (s : HS), atE (ATN B) "note" (f a) s = .ret (noteD fs (v a)) s) (hk : SokF fs) (hs : sortS (l.map (·.1)) = l.map (·.1)) (hn : (l.map (·.1)).Nodup) (hl : l.length ≤ 8) (hw : ∀ p ∈ l, g_is_word B [.str p.1] s = .ret (.bl true) s) (hd : ∀ p ∈ l, getS m p.1 = none) :
    g_check_entries B [.str part, catD fs, .dic true (l.map (encK f)), .dic true (m.map (encK g))] s = .ret .non s := by
  obtain ⟨y5, e⟩ := ck_loop (B := B) (s := s) (f := f) (g := g) (v := v) (l := l) (m := m) (a0 := .fr (.str part)) (a4 := .fr (.lst ((l.map (·.1)).map D.str))) hat hk (l.map (·.1)) .no (fun n h => by
    obtain ⟨p, hp, rfl⟩ := List.mem_map.mp h
    exact ⟨hw p hp, ⟨p.2, getS_mem hn hp⟩, hd p hp⟩)
  have hso := sorted_enc (B := B) (f := f) hs (by omega)
  have main : (p_check_entries B).ev [.fr (.str part), .fr (catD fs), .fr (.dic true (l.map (encK f))), .fr (.dic true (m.map (encK g))), .no, .no] s = .nxt [.fr (.str part), .fr (catD fs), .fr (.dic true (l.map (encK f))), .fr (.dic true (m.map (encK g))), .fr (.lst ((l.map (·.1)).map D.str)), y5] s := by
    unfold p_check_entries
    refine (ev_seq (Γ1 := [.fr (.str part), .fr (catD fs), .fr (.dic true (l.map (encK f))), .fr (.dic true (m.map (encK g))), .fr (.lst ((l.map (·.1)).map D.str)), .no]) (s1 := s) ?_).trans ?_
    · refine (ev_set (ev_blt1 (s1 := s) (d := .dic true (l.map (encK f))) rfl hso)).trans rfl
    refine (ev_seq (s1 := s) ((z_for).trans (Eq.trans ?_ e))).trans ?_
    · simp only [z_wk, z_var, List.getElem?_cons_succ, List.getElem?_cons_zero, z_get, z_bind, z_wkL, z_outL]
      rfl
    · refine ev_iteF ?_
      have h8 : ¬ (8 : Int) < ((l.length : Nat) : Int) := by omega
      simp only [z_ofE, z_op2, z_len, z_var, z_cst, List.getElem?_cons_succ, List.getElem?_cons_zero, z_get, z_bind, z_lenL, List.length_map, f_gt, z_opt, z_tst, decide_eq_false h8]
  unfold g_check_entries
  rw [z_fn]
  exact congrArg Out.res main
theorem in_order (hs : sortS (l.map (·.1)) = l.map (·.1)) (hn : (l.map (·.1)).Nodup) (hl : l.length ≤ 8) : g_in_order B [.dic true (l.map (encK f))] s = .ret (.dic true (l.map (encK f))) s := by
  have hso := sorted_enc (B := B) (f := f) hs (by omega)
  have e := dc_pure (Γ := [.fr (.dic true (l.map (encK f))), .no]) (s := s) (vs := [1]) (as := (XG.name B 1).as) (tt := (XT.yes B).ev) (ek := (XE.var B 1).ev) (ee := (XE.ix [] (.var B 0) (.var B 1)).ev) (enc := fun p : Str × α => D.str p.1) (l := fun p => [(1, .str p.1)]) (P := fun _ => true) (k := fun p => p.1) (f := fun p => f p.2) l []
    (fun _ _ => rfl) (fun _ _ => rfl) (fun _ _ => rfl) (fun _ _ _ => by simp) (fun p hp _ => by
      have := getS_mem hn (x := p.1) (v := p.2) hp
      simp [lookK_enc, this]) (fun _ _ _ h => nomatch h) (by rw [List.filter_eq_self.mpr fun _ _ => rfl]; exact hn)
  rw [List.filter_eq_self.mpr fun _ _ => rfl, List.nil_append] at e
  have hm : ((l.map (·.1)).map D.str) = l.map fun p => D.str p.1 := by rw [List.map_map]; rfl
  have hm2 : (l.map fun p => ((Sum.inr p.1 : Key), f p.2)) = l.map (encK f) := rfl
  rw [hm] at hso
  rw [hm2] at e
  have main : (p_in_order B).ev [.fr (.dic true (l.map (encK f))), .no] s = .ret (.dic true (l.map (encK f))) s := by
    unfold p_in_order
    refine ev_ret ?_
    simp only [z_ofD, z_dc, z_wk, z_blt, z_evs, z_evs0, z_var, List.getElem?_cons_zero, z_get, z_bind, hso, z_opt, z_wkL, z_bindL, List.length_map, show l.length ≤ 100000 by omega, if_true, wipeG]
    simp only [List.foldl_cons, List.foldl_nil, List.set_cons_succ, List.set_cons_zero]
    rw [e]
    rfl
  unfold g_in_order
  rw [z_fn]
  exact congrArg Out.res main
end
end Lo

set_option Elab.async false
set_option linter.all false
set_option maxRecDepth 100000
/-! # The office of what was drawn, made -/
namespace Lo
open PySem PySem.Spec PyProof.Rows L2 Evl Dv
structure Lab (B : Bs) {α : Type} (l : List (Str × α)) : Prop where
  srt : sortS (l.map (·.1)) = l.map (·.1)
  nd : (l.map (·.1)).Nodup
  len : l.length ≤ 8
  wd : ∀ p ∈ l, ∀ s, g_is_word B [.str p.1] s = .ret (.bl true) s
theorem ev_call3 {B : Bs} {Γ : Gm} {s s1 s2 s3 : HS} {p q r : XE B} {d e f : D} {g : Gf} {R : Res} {h : [p, q, r].length = 3} (h1 : p.ev Γ s = .ret d s1) (h2 : q.ev Γ s1 = .ret e s2) (h3 : r.ev Γ s2 = .ret f s3) (hg : g [d, e, f] s3 = R) : (XE.call 3 g [p, q, r] h).ev Γ s = R := by
  show (p.ev Γ s).bind _ = _
  rw [h1]
  show (q.ev Γ s1).bind _ = _
  rw [h2]
  show (r.ev Γ s2).bind _ = _
  rw [h3]
  exact hg
theorem ev_par3D {B : Bs} {Γ : Gm} {s s1 : HS} {i j l : Nat} {p : XE B} {d : D} (hp : p.ev Γ s = .ret d s1) : (XS.par3D i j l p).ev Γ s = .nxt (((Γ.set i (.fr d)).set j (.dco [])).set l (.dco [])) s1 := by
  unfold XS.par3D
  dsimp only
  rw [hp, z_out]
theorem ev_drop4 {B : Bs} {Γ : Gm} {s s' : HS} {g : Gf} {p q r t : XE B} {d e f z u : D} {h} (h1 : p.ev Γ s = .ret d s) (h2 : q.ev Γ s = .ret e s) (h3 : r.ev Γ s = .ret f s) (h4 : t.ev Γ s = .ret z s) (hg : g [d, e, f, z] s = .ret u s') : (XS.drop (XE.call 4 g [p, q, r, t] h)).ev Γ s = .nxt Γ s' := by
  simp only [z_drop, z_call, z_evs, z_evs0, h1, h2, h3, h4, z_bind, hg, z_out]
section
variable {B : Bs} {s : HS} {o : Of}
theorem office_init (hk : SokF o.fs) (ht : Lab B o.ths) (hc : Lab B o.cls) (hd : ∀ p ∈ o.cls, getS o.ths p.1 = none) : g_Office__init__ B [catD o.fs, thsD o, clsD o] s = .ret (offD o) s := by
  refine ini_ok (Γ' := [.fr (catD o.fs), .fr (thsD o), .fr (clsD o)]) ?_
  show (p_Office__init__ B).ev [.io "Office" [], .fr (catD o.fs), .fr (thsD o), .fr (clsD o)] s = _
  have c1 := check_ok (B := B) (s := s) (fs := o.fs) (f := thD o.fs) (g := fun _ : Unit => D.non) (v := Th.v) (l := o.ths) (m := []) (part := "things") (fun a s => by simp [ATN]) hk ht.srt ht.nd ht.len (fun p hp => ht.wd p hp s) (fun _ _ => rfl)
  have c2 := check_ok (B := B) (s := s) (fs := o.fs) (f := clD o.fs) (g := thD o.fs) (v := Cl.v) (l := o.cls) (m := o.ths) (part := "claims") (fun a s => by simp [ATN]) hk hc.srt hc.nd hc.len (fun p hp => hc.wd p hp s) hd
  have i1 := in_order (B := B) (s := s) (f := thD o.fs) ht.srt ht.nd ht.len
  have i2 := in_order (B := B) (s := s) (f := clD o.fs) hc.srt hc.nd hc.len
  unfold p_Office__init__
  refine (ev_seq (s1 := s) (ev_drop4 (d := .str "things") (e := catD o.fs) (f := thsD o) (z := .dic true []) rfl rfl rfl rfl c1)).trans ?_
  refine (ev_seq (s1 := s) (ev_drop4 (d := .str "claims") (e := catD o.fs) (f := clsD o) (z := thsD o) rfl rfl rfl rfl c2)).trans ?_
  refine (ev_seq (s1 := s) (setF_ev (fs := []) (d := catD o.fs) rfl (by decide) rfl)).trans ?_
  refine (ev_seq (s1 := s) (setF_ev (fs := [("_catalog", catD o.fs)]) (d := thsD o) rfl (by show 1 < 1000; decide) (ev_call1 (s1 := s) (d := thsD o) rfl i1))).trans ?_
  exact (setF_ev (fs := [("_catalog", catD o.fs), ("_things", thsD o)]) (d := clsD o) (s1 := s) rfl (by show 2 < 1000; decide) (ev_call1 (s1 := s) (d := clsD o) rfl i2)).trans rfl
def otB (B : Bs) : XS B := .dput 5 (.var B 7) (.make "Thing" 2 (g_Thing__init__ B) [(.call 3 (g__law_note B) [(.var B 4), (.var B 1), (.ix [] (.ix [] (.var B 2) (.var B 7)) (.int B 0))] rfl), (.ix [] (.ix [] (.var B 2) (.var B 7)) (.int B 1))] rfl (XS.ini_ins))
structure Fok3 (fs : FV) : Prop where
  nd : (fs.map (·.1)).Nodup
  ok : Fs fs
  len : fs.length ≤ 6
theorem ev_ixK {α : Type} {Γ : Gm} {p q : XE B} {f : α → D} {l : List (Str × α)} {x : Str} {v : α} {hs : Hd} (hp : p.ev Γ s = .ret (.dic true (l.map (encK f))) s) (hq : q.ev Γ s = .ret (.str x) s) (h : getS l x = some v) : (XE.ix hs p q).ev Γ s = .ret (f v) s := by
  rw [z_ix, hp, z_bind, hq, z_bind]
  exact ix_enc h
theorem ot_loop {a0 a3 a6 a8 a9 a10 a11 : Sl} (hF : Fok3 o.fs) (hnd : (o.ths.map (·.1)).Nodup) : ∀ (ls acc : List (Str × Th)) (x7 : Sl), acc ++ ls = o.ths → (∀ p ∈ ls, Tok o.fs p.2) → o.ths.length ≤ 1000 →
    ∃ y7, forL (XG.name B 7) (otB B).ev (ls.map fun p => D.str p.1) [a0, .fr (ftD o.fs), .fr (dths o), a3, .fr (catD o.fs), .dco (acc.map (encK (thD o.fs))), a6, x7, a8, a9, a10, a11] s = .nxt [a0, .fr (ftD o.fs), .fr (dths o), a3, .fr (catD o.fs), .dco (o.ths.map (encK (thD o.fs))), a6, y7, a8, a9, a10, a11] s
  | [], acc, x7, he, _, _ => ⟨x7, by rw [List.append_nil] at he; rw [he]; rfl⟩
  | p :: ls, acc, x7, he, hv, hl => by
    have hp := hv p (List.mem_cons_self ..)
    obtain ⟨y7, e⟩ := ot_loop (a0 := a0) (a3 := a3) (a6 := a6) (a8 := a8) (a9 := a9) (a10 := a10) (a11 := a11) hF hnd ls (acc ++ [p]) (.fr (.str p.1)) (by rw [List.append_assoc]; exact he) (fun q hq => hv q (List.mem_cons_of_mem _ hq)) hl
    refine ⟨y7, (for_cons (l := [(7, .str p.1)]) rfl ?_).trans e⟩
    show (otB B).ev [a0, .fr (ftD o.fs), .fr (dths o), a3, .fr (catD o.fs), .dco (acc.map (encK (thD o.fs))), a6, .fr (.str p.1), a8, a9, a10, a11] s = _
    have hg : getS o.ths p.1 = some p.2 := getS_mem hnd (by rw [← he]; simp)
    have hne : p.1 ∉ acc.map (·.1) := fun z => by
      rw [← he, List.map_append] at hnd
      have := (List.nodup_append.mp hnd).2.2 p.1 z p.1 (by simp)
      exact this rfl
    have hlen : acc.length ≤ o.ths.length := by rw [← he, List.length_append]; omega
    have hix : (XE.ix [] (.var B 2) (.var B 7)).ev [a0, .fr (ftD o.fs), .fr (dths o), a3, .fr (catD o.fs), .dco (acc.map (encK (thD o.fs))), a6, .fr (.str p.1), a8, a9, a10, a11] s = .ret (dthD p.2) s := ev_ixK (l := o.ths) (f := dthD) rfl rfl hg
    have h0 : (XE.ix [] (XE.ix [] (.var B 2) (.var B 7)) (.int B 0)).ev [a0, .fr (ftD o.fs), .fr (dths o), a3, .fr (catD o.fs), .dco (acc.map (encK (thD o.fs))), a6, .fr (.str p.1), a8, a9, a10, a11] s = .ret (.dic true (p.2.v.map (encK wD))) s := by
      rw [z_ix, hix]
      rfl
    have h1 : (XE.ix [] (XE.ix [] (.var B 2) (.var B 7)) (.int B 1)).ev [a0, .fr (ftD o.fs), .fr (dths o), a3, .fr (catD o.fs), .dco (acc.map (encK (thD o.fs))), a6, .fr (.str p.1), a8, a9, a10, a11] s = .ret (.int p.2.day) s := by
      rw [z_ix, hix]
      rfl
    have hd0 := hp.d0
    have hd1 := hp.d1
    have hn := law_note (B := B) (s := s) hp.v hF.nd hF.ok hF.len
    refine (ev_dput (kvs := acc.map (encK (thD o.fs))) (x := p.1) (d := thD o.fs p.2) (s1 := s) (s2 := s) rfl (by rw [List.length_map]; omega) (ev_make2 (d := noteD o.fs p.2.v) (s1 := s) ?_ h1 (thing_init (by omega) (by omega))) rfl).trans ?_
    · exact ev_call3 (s1 := s) (s2 := s) (s3 := s) (d := catD o.fs) (e := ftD o.fs) rfl rfl h0 hn
    · rw [put_new (f := thD o.fs) hne]
      rfl
def ocB (B : Bs) : XS B := .seq (.asg (.tup [(.name B 8), (.name B 9), (.name B 10), (.name B 11)]) (.ix [] (.var B 3) (.var B 7))) (.dput 6 (.var B 7) (.make "Claim" 4 (g_Claim__init__ B) [(.call 3 (g__law_note B) [(.var B 4), (.var B 1), (.var B 8)] rfl), (.var B 9), (.var B 10), (.var B 11)] rfl (XS.ini_ins)))
theorem oc_loop {a0 a2 a5 : Sl} (hF : Fok3 o.fs) (hnd : (o.cls.map (·.1)).Nodup) : ∀ (ls acc : List (Str × Cl)) (x7 x8 x9 x10 x11 : Sl), acc ++ ls = o.cls → (∀ p ∈ ls, Cok o.fs p.2) → o.cls.length ≤ 1000 →
    ∃ y7 y8 y9 y10 y11, forL (XG.name B 7) (ocB B).ev (ls.map fun p => D.str p.1) [a0, .fr (ftD o.fs), a2, .fr (dcls o), .fr (catD o.fs), a5, .dco (acc.map (encK (clD o.fs))), x7, x8, x9, x10, x11] s = .nxt [a0, .fr (ftD o.fs), a2, .fr (dcls o), .fr (catD o.fs), a5, .dco (o.cls.map (encK (clD o.fs))), y7, y8, y9, y10, y11] s
  | [], acc, x7, x8, x9, x10, x11, he, _, _ => ⟨x7, x8, x9, x10, x11, by rw [List.append_nil] at he; rw [he]; rfl⟩
  | p :: ls, acc, x7, x8, x9, x10, x11, he, hv, hl => by
    have hp := hv p (List.mem_cons_self ..)
    obtain ⟨y7, y8, y9, y10, y11, e⟩ := oc_loop (a0 := a0) (a2 := a2) (a5 := a5) hF hnd ls (acc ++ [p]) (.fr (.str p.1)) (.fr (.dic true (p.2.v.map (encK wD)))) (.fr (.int p.2.day)) (.fr (.int (p.2.slips : Nat))) (.fr (.int p.2.worth)) (by rw [List.append_assoc]; exact he) (fun q hq => hv q (List.mem_cons_of_mem _ hq)) hl
    refine ⟨y7, y8, y9, y10, y11, (for_cons (l := [(7, .str p.1)]) rfl ?_).trans e⟩
    show (ocB B).ev [a0, .fr (ftD o.fs), a2, .fr (dcls o), .fr (catD o.fs), a5, .dco (acc.map (encK (clD o.fs))), .fr (.str p.1), x8, x9, x10, x11] s = _
    have hg : getS o.cls p.1 = some p.2 := getS_mem hnd (by rw [← he]; simp)
    have hne : p.1 ∉ acc.map (·.1) := fun z => by
      rw [← he, List.map_append] at hnd
      have := (List.nodup_append.mp hnd).2.2 p.1 z p.1 (by simp)
      exact this rfl
    have hlen : acc.length ≤ o.cls.length := by rw [← he, List.length_append]; omega
    have hix : (XE.ix [] (.var B 3) (.var B 7)).ev [a0, .fr (ftD o.fs), a2, .fr (dcls o), .fr (catD o.fs), a5, .dco (acc.map (encK (clD o.fs))), .fr (.str p.1), x8, x9, x10, x11] s = .ret (dclD p.2) s := ev_ixK (l := o.cls) (f := dclD) rfl rfl hg
    have ha : (XS.asg (.tup [(.name B 8), (.name B 9), (.name B 10), (.name B 11)]) (.ix [] (.var B 3) (.var B 7))).ev [a0, .fr (ftD o.fs), a2, .fr (dcls o), .fr (catD o.fs), a5, .dco (acc.map (encK (clD o.fs))), .fr (.str p.1), x8, x9, x10, x11] s = .nxt [a0, .fr (ftD o.fs), a2, .fr (dcls o), .fr (catD o.fs), a5, .dco (acc.map (encK (clD o.fs))), .fr (.str p.1), .fr (.dic true (p.2.v.map (encK wD))), .fr (.int p.2.day), .fr (.int (p.2.slips : Nat)), .fr (.int p.2.worth)] s := by
      rw [z_asg, hix, z_out]
      rfl
    have hn := law_note (B := B) (s := s) hp.v hF.nd hF.ok hF.len
    have hd0 := hp.d0
    have hd1 := hp.d1
    have hw0 := hp.w0
    have hw1 := hp.w1
    refine (ev_seq (s1 := s) ha).trans ?_
    refine (ev_dput (kvs := acc.map (encK (clD o.fs))) (x := p.1) (d := clD o.fs p.2) (s1 := s) (s2 := s) rfl (by rw [List.length_map]; omega) (ev_make4 (d := noteD o.fs p.2.v) (e := .int p.2.day) (f := .int (p.2.slips : Nat)) (z := .int p.2.worth) (s1 := s) (s2 := s) (s3 := s) (s4 := s) ?_ rfl rfl rfl (claim_init (by omega) (by omega) hp.sl (by omega) (by omega))) rfl).trans ?_
    · exact ev_call3 (s1 := s) (s2 := s) (s3 := s) (d := catD o.fs) (e := ftD o.fs) (f := .dic true (p.2.v.map (encK wD))) rfl rfl rfl hn
    · rw [put_new (f := clD o.fs) hne]
      rfl
theorem srtT : ∀ k, sortS (LT.take k) = LT.take k
  | 0 | 1 | 2 | 3 | 4 | 5 => by decide +kernel
  | k + 6 => by
    rw [List.take_of_length_le (by show 6 ≤ k + 6; omega)]
    decide +kernel
theorem srtC : ∀ k, sortS (LC.take k) = LC.take k
  | 0 | 1 | 2 | 3 | 4 | 5 => by decide +kernel
  | k + 6 => by
    rw [List.take_of_length_le (by show 6 ≤ k + 6; omega)]
    decide +kernel
theorem sok6 : Sok L6 := by
  have h : L6.all PyData.strOk = true := by decide +kernel
  exact fun x hx => List.all_eq_true.mp h x hx
theorem dis_TC : ∀ x ∈ LC, x ∉ LT := by decide +kernel
theorem Dr.nd (h : Dr o) : (o.fs.map (·.1)).Nodup := by
  obtain ⟨k, hk⟩ := h.fn
  rw [hk]
  exact nd6.sublist (List.take_sublist _ _)
theorem Dr.fok3 (h : Dr o) : Fok3 o.fs := ⟨h.nd, h.fok, by have := h.flen; omega⟩
theorem Dr.ndt (h : Dr o) : (o.ths.map (·.1)).Nodup := by
  obtain ⟨k, hk⟩ := h.tn
  rw [hk]
  exact ndT.sublist (List.take_sublist _ _)
theorem Dr.ndc (h : Dr o) : (o.cls.map (·.1)).Nodup := by
  obtain ⟨k, hk⟩ := h.cn
  rw [hk]
  exact ndC.sublist (List.take_sublist _ _)
theorem Dr.lt (h : Dr o) : o.ths.length ≤ 6 := by
  obtain ⟨k, hk⟩ := h.tn
  rw [← List.length_map (f := (·.1)), hk]
  exact List.length_take_le' _ _
theorem Dr.lc (h : Dr o) : o.cls.length ≤ 6 := by
  obtain ⟨k, hk⟩ := h.cn
  rw [← List.length_map (f := (·.1)), hk]
  exact List.length_take_le' _ _
theorem Dr.tin (h : Dr o) {p : Str × Th} (hp : p ∈ o.ths) : p.1 ∈ LT := by
  obtain ⟨k, hk⟩ := h.tn
  have : p.1 ∈ LT.take k := by rw [← hk]; exact List.mem_map.mpr ⟨p, hp, rfl⟩
  exact (List.take_sublist _ _).subset this
theorem Dr.cin (h : Dr o) {p : Str × Cl} (hp : p ∈ o.cls) : p.1 ∈ LC := by
  obtain ⟨k, hk⟩ := h.cn
  have : p.1 ∈ LC.take k := by rw [← hk]; exact List.mem_map.mpr ⟨p, hp, rfl⟩
  exact (List.take_sublist _ _).subset this
theorem Dr.fin (h : Dr o) {f : Str × List Str} (hp : f ∈ o.fs) : f.1 ∈ L6 := by
  obtain ⟨k, hk⟩ := h.fn
  have : f.1 ∈ L6.take k := by rw [← hk]; exact List.mem_map.mpr ⟨f, hp, rfl⟩
  exact (List.take_sublist _ _).subset this
theorem Dr.labt (h : Dr o) : Lab B o.ths := ⟨by obtain ⟨k, hk⟩ := h.tn; rw [hk]; exact srtT k, h.ndt, by have := h.lt; omega, fun p hp s => word_T p.1 (h.tin hp)⟩
theorem Dr.labc (h : Dr o) : Lab B o.cls := ⟨by obtain ⟨k, hk⟩ := h.cn; rw [hk]; exact srtC k, h.ndc, by have := h.lc; omega, fun p hp s => word_C p.1 (h.cin hp)⟩
theorem Dr.dis (h : Dr o) : ∀ p ∈ o.cls, getS o.ths p.1 = none := fun p hp => getS_none fun z => by
  obtain ⟨q, hq, e⟩ := List.mem_map.mp z
  exact dis_TC p.1 (h.cin hp) (by rw [← e]; exact h.tin hq)
theorem Dr.sok (h : Dr o) : SokF o.fs := fun f hf => ⟨sok6 f.1 (h.fin hf), sok5.sub (h.fok f hf).1⟩
theorem law_office (h : Dr o) : g__law_office B [drD o] s = .ret (offD o) s := by
  have hF := h.fok3
  have lt := h.lt
  have lc := h.lc
  obtain ⟨y7, e1⟩ := ot_loop (B := B) (s := s) (a0 := .fr (drD o)) (a3 := .fr (dcls o)) (a6 := .dco []) (a8 := .no) (a9 := .no) (a10 := .no) (a11 := .no) hF h.ndt o.ths [] .no rfl h.tok (by omega)
  obtain ⟨z7, z8, z9, z10, z11, e2⟩ := oc_loop (B := B) (s := s) (a0 := .fr (drD o)) (a2 := .fr (dths o)) (a5 := .dco (o.ths.map (encK (thD o.fs)))) hF h.ndc o.cls [] y7 .no .no .no .no rfl h.cok (by omega)
  have hcat : g_Catalog__init__ B [ftD o.fs] s = .ret (catD o.fs) s := cat_init h.fpos hF.len hF.nd fun f hf => isf_all f.1 (h.fin hf) f.2 (wok_mem (h.fok f hf))
  have hoff := office_init (B := B) (s := s) h.sok h.labt h.labc h.dis
  have main : (p__law_office B).ev [.fr (drD o), .no, .no, .no, .no, .no, .no, .no, .no, .no, .no, .no] s = .ret (offD o) s := by
    unfold p__law_office
    refine (ev_seq (Γ1 := [.fr (drD o), .fr (ftD o.fs), .fr (dths o), .fr (dcls o), .no, .no, .no, .no, .no, .no, .no, .no]) (s1 := s) rfl).trans ?_
    refine (ev_seq (Γ1 := [.fr (drD o), .fr (ftD o.fs), .fr (dths o), .fr (dcls o), .fr (catD o.fs), .dco [], .dco [], .no, .no, .no, .no, .no]) (s1 := s) ((ev_par3D (d := catD o.fs) (s1 := s) (ev_make1 (d := ftD o.fs) (s1 := s) rfl hcat)).trans rfl)).trans ?_
    have w1 : (XI.wk (.var B 2)).ev [.fr (drD o), .fr (ftD o.fs), .fr (dths o), .fr (dcls o), .fr (catD o.fs), .dco [], .dco [], .no, .no, .no, .no, .no] s = .ret (.lst (o.ths.map fun p => D.str p.1)) s := by
      have : walkOf (dths o) = some (o.ths.map fun p => D.str p.1) := by
        unfold dths
        rw [z_wkD, keys_enc, List.map_map]
        rfl
      simp only [z_wk, z_var, List.getElem?_cons_succ, List.getElem?_cons_zero, z_get, z_bind, this]
    refine (ev_seq (s1 := s) ((ev_for w1).trans e1)).trans ?_
    have w2 : (XI.wk (.var B 3)).ev [.fr (drD o), .fr (ftD o.fs), .fr (dths o), .fr (dcls o), .fr (catD o.fs), .dco (o.ths.map (encK (thD o.fs))), .dco [], y7, .no, .no, .no, .no] s = .ret (.lst (o.cls.map fun p => D.str p.1)) s := by
      have : walkOf (dcls o) = some (o.cls.map fun p => D.str p.1) := by
        unfold dcls
        rw [z_wkD, keys_enc, List.map_map]
        rfl
      simp only [z_wk, z_var, List.getElem?_cons_succ, List.getElem?_cons_zero, z_get, z_bind, this]
    refine (ev_seq (s1 := s) ((ev_for w2).trans e2)).trans ?_
    refine ev_frzD (kvs := o.cls.map (encK (clD o.fs))) rfl (ev_frzD (kvs := o.ths.map (encK (thD o.fs))) rfl ?_)
    exact ev_ret (ev_make3 (d := catD o.fs) (e := thsD o) (f := clsD o) (s1 := s) (s2 := s) (s3 := s) rfl rfl rfl hoff)
  unfold g__law_office
  rw [z_fn]
  exact congrArg Out.res main
end
end Lo

set_option Elab.async false
set_option linter.all false
set_option maxRecDepth 100000
/-! # What is drawn keeps the facts' premises -/
namespace Lo
open PySem PySem.Spec PyProof.Rows L2 Evl Dv
theorem nd5 : W5.Nodup := by decide +kernel
section
variable {o : Of} {cl : Cl} {th : Th} {c t : Str} {vs : FV}
theorem vs_hasS (h : Dr o) (hv : Vs o.fs vs) : HasS o.fs vs := fun f hf => by
  obtain ⟨w, h1, h2, _⟩ := vs_at hv h.nd f hf
  have hs := h2.trans (h.fok f hf).1
  exact ⟨w, h1, by have := hs.length_le; have h5 : W5.length = 5 := rfl; omega, sok5.sub hs⟩
theorem vs_has5 (h : Dr o) (hv : Vs o.fs vs) : ∀ f ∈ o.fs, ∃ w, getS vs f.1 = some w ∧ w.length ≤ 5 := fun f hf => by
  obtain ⟨w, h1, h2, _⟩ := vs_at hv h.nd f hf
  have hs := h2.trans (h.fok f hf).1
  exact ⟨w, h1, hs.length_le⟩
theorem vs_vok (h : Dr o) (hv : Vs o.fs vs) : Vok o.fs vs := by
  constructor
  · intro f hf
    obtain ⟨w, h1, h2, _⟩ := vs_at hv h.nd f hf
    have hva : va vs f.1 = w := by simp [va, h1]
    rw [hva]
    exact nd5.sublist (h2.trans (h.fok f hf).1)
  · intro f hf
    obtain ⟨w, h1, h2, h3⟩ := vs_at hv h.nd f hf
    have hva : va vs f.1 = w := by simp [va, h1]
    rw [hva]
    exact h3
theorem mis_sok (h : Dr o) {a b : FV} : Sok (misF o.fs a b) := by
  have h1 : Sok (o.fs.map (·.1)) := by
    obtain ⟨k, hk⟩ := h.fn
    rw [hk]
    exact sok6.sub (List.take_sublist _ _)
  exact h1.filter
theorem mis_len (h : Dr o) {a b : FV} : (misF o.fs a b).length ≤ 3 := by
  have h1 : (misF o.fs a b).length ≤ (o.fs.map (·.1)).length := List.length_filter_le _ _
  rw [List.length_map] at h1
  have := h.flen
  omega
end
end Lo

set_option Elab.async false
set_option linter.all false
set_option maxRecDepth 100000
/-! # Candidates, rivals, lonely -/
namespace Lo
open PySem PySem.Spec PyProof.Rows L2 Evl Dv
theorem sort_pw {l : List Str} {a : List Str} (h1 : a.Pairwise leS) (h2 : a.Perm l) : sortS l = a :=
  (List.Perm.eq_of_pairwise (le := leS) (fun _ _ _ _ h k => leS_anti h k) h1 (sortS_sorted l) (h2.trans (sortS_perm l).symm)).symm
theorem sort_filter {l m : List Str} {P : Str → Bool} (h : m.Perm (l.filter P)) : sortS m = (sortS l).filter P :=
  sort_pw ((sortS_sorted l).filter _) (((sortS_perm l).filter P).trans h.symm)
theorem strs_map : ∀ l : List Str, strsD (l.map D.str) = some l
  | [] => rfl
  | x :: r => by
    show (strsD (r.map D.str)).map (x :: ·) = _
    rw [strs_map r]
    rfl
theorem f_sortL {B : Bs} {l : List Str} (h : l.length < 64) : (o_sorted B).f [.lst (l.map D.str)] = some (.lst ((sortS l).map D.str)) := by
  show srtS (strsD (l.map D.str)) = _
  rw [strs_map]
  exact if_pos h
theorem f_anyB {B : Bs} {α : Type} {l : List α} {f : α → Bool} : (o_any B).f [.lst (l.map fun x => D.bl (f x))] = some (.bl (l.any f)) := by
  show (blsOf (l.map fun x => D.bl (f x))).map _ = _
  rw [bls_map]
  simp [List.any_map, Function.comp_def]
theorem f_listD {B : Bs} {pl : Bool} {kvs : List (Key × D)} : (o_list B).f [.dic pl kvs] = some (.lst (keysD kvs)) := by cases pl <;> rfl
theorem eq_strs {s : HS} {a b : Str} {neg : Bool} (ha : PyData.strOk a = true) (hb : PyData.strOk b = true) : eqE neg [] (.str a) (.str b) s = .ret (.bl (if neg then !decide (a = b) else decide (a = b))) s := by
  show Res.opt (if SeqAt.shaped (.str a) = true ∧ SeqAt.shaped (.str b) = true then some (.bl (if neg then !PyData.eqv (.str a) (.str b) else PyData.eqv (.str a) (.str b))) else none) s = _
  rw [if_pos ⟨sh_str ha, sh_str hb⟩]
  have : PyData.eqv (.str a) (.str b) = decide (a = b) := by
    by_cases h : a = b
    · subst h; simp [PyData.eqv]
    · simp [PyData.eqv, h]
  rw [this]
  rfl
structure Ok (o : Of) : Prop where
  ndt : (o.ths.map (·.1)).Nodup
  ndc : (o.cls.map (·.1)).Nodup
  ht : ∀ p ∈ o.ths, Has o.fs p.2.v
  hc : ∀ p ∈ o.cls, Has o.fs p.2.v
  lf : o.fs.length ≤ 1000
  lt : o.ths.length ≤ 20
  lc : o.cls.length ≤ 20
  dis : ∀ p ∈ o.cls, getS o.ths p.1 = none
  st : ∀ p ∈ o.ths, PyData.strOk p.1 = true
  sc : ∀ p ∈ o.cls, PyData.strOk p.1 = true
theorem Dr.ok {o : Of} (h : Dr o) : Ok o := by
  have sT : Sok LT := by
    have h : LT.all PyData.strOk = true := by decide +kernel
    exact fun x hx => List.all_eq_true.mp h x hx
  have sC : Sok LC := by
    have h : LC.all PyData.strOk = true := by decide +kernel
    exact fun x hx => List.all_eq_true.mp h x hx
  exact ⟨h.ndt, h.ndc, fun p hp => (vs_hasS h (h.tok p hp).v).has, fun p hp => (vs_hasS h (h.cok p hp).v).has, by have := h.flen; omega, by have := h.lt; omega, by have := h.lc; omega, h.dis, fun p hp => sT p.1 (h.tin hp), fun p hp => sC p.1 (h.cin hp)⟩
def candC (o : Of) (cl : Cl) : List Str := (o.ths.filter fun p => fitB o cl p.2).map (·.1)
def candT (o : Of) (th : Th) : List Str := (o.cls.filter fun p => fitB o p.2 th).map (·.1)
section
variable {B : Bs} {s : HS} {o : Of} {cl : Cl} {th : Th} {c t : Str}
theorem walk_ths : walkOf (thsD o) = some (o.ths.map fun p => D.str p.1) := by
  unfold thsD
  rw [z_wkD, keys_enc, List.map_map]
  rfl
theorem walk_cls : walkOf (clsD o) = some (o.cls.map fun p => D.str p.1) := by
  unfold clsD
  rw [z_wkD, keys_enc, List.map_map]
  rfl
theorem has_cls {x : Str} : inE false [] (.str x) (clsD o) s = .ret (.bl (getS o.cls x).isSome) s := by
  unfold clsD
  rw [z_inD, any_enc]
  rfl
theorem has_ths {x : Str} : inE false [] (.str x) (thsD o) s = .ret (.bl (getS o.ths x).isSome) s := by
  unfold thsD
  rw [z_inD, any_enc]
  rfl
theorem cand_claim (k : Ok o) (hc : getS o.cls c = some cl) : g_candidates B [offD o, .str c] s = .ret (.lst ((candC o cl).map D.str)) s := by
  unfold g_candidates
  rw [z_fn]
  have hh := k.hc _ (getS_some hc)
  have e := lc_pure (Γ := [.fr (offD o), .fr (.str c), .no, .no]) (s := s) (vs := [2]) (as := (XG.name B 2).as) (tt := (XT.ofE (.call 3 (g_fits B) [(.var B 0), (.var B 1), (.var B 2)] rfl)).ev) (ee := (XE.var B 2).ev) (enc := fun p : Str × Th => D.str p.1) (l := fun p => [(2, .str p.1)]) (P := fun p => fitB o cl p.2) (f := fun p => D.str p.1) o.ths
    (fun _ _ => rfl) (fun _ _ => rfl) (fun p hp => by
      have ht := getS_mem k.ndt (x := p.1) (v := p.2) hp
      simp [fits hc ht hh (k.ht p hp) k.lf]) (fun _ _ _ => by simp)
  have hm : (o.ths.filter fun p => fitB o cl p.2).map (fun p => D.str p.1) = (candC o cl).map D.str := by
    unfold candC
    rw [List.map_map]
    rfl
  rw [hm] at e
  have := k.lt
  simp [p_candidates, has_cls, hc, walk_ths, wipeG, e, show o.ths.length ≤ 100000 by omega]
theorem cand_thing (k : Ok o) (hc : getS o.cls t = none) (ht : getS o.ths t = some th) : g_candidates B [offD o, .str t] s = .ret (.lst ((candT o th).map D.str)) s := by
  unfold g_candidates
  rw [z_fn]
  have hh := k.ht _ (getS_some ht)
  have e := lc_pure (Γ := [.fr (offD o), .fr (.str t), .no, .no]) (s := s) (vs := [3]) (as := (XG.name B 3).as) (tt := (XT.ofE (.call 3 (g_fits B) [(.var B 0), (.var B 3), (.var B 1)] rfl)).ev) (ee := (XE.var B 3).ev) (enc := fun p : Str × Cl => D.str p.1) (l := fun p => [(3, .str p.1)]) (P := fun p => fitB o p.2 th) (f := fun p => D.str p.1) o.cls
    (fun _ _ => rfl) (fun _ _ => rfl) (fun p hp => by
      have hc := getS_mem k.ndc (x := p.1) (v := p.2) hp
      simp [fits hc ht (k.hc p hp) hh k.lf]) (fun _ _ _ => by simp)
  have hm : (o.cls.filter fun p => fitB o p.2 th).map (fun p => D.str p.1) = (candT o th).map D.str := by
    unfold candT
    rw [List.map_map]
    rfl
  rw [hm] at e
  have := k.lc
  simp [p_candidates, has_cls, has_ths, hc, ht, walk_cls, wipeG, e, show o.cls.length ≤ 100000 by omega]
/-- the candidates of any label -/
def cand (o : Of) (x : Str) : List Str := match getS o.cls x with
  | some cl => candC o cl
  | none => match getS o.ths x with
    | some th => candT o th
    | none => []
theorem cand_any (k : Ok o) {x : Str} (hx : x ∈ o.ths.map (·.1) ++ o.cls.map (·.1)) : g_candidates B [offD o, .str x] s = .ret (.lst ((cand o x).map D.str)) s := by
  unfold cand
  cases hc : getS o.cls x with
  | some cl => exact cand_claim k hc
  | none =>
    cases ht : getS o.ths x with
    | some th => exact cand_thing k hc ht
    | none =>
      exfalso
      rcases List.mem_append.mp hx with h | h
      · obtain ⟨p, hp, rfl⟩ := List.mem_map.mp h
        rw [getS_mem k.ndt (x := p.1) (v := p.2) hp] at ht
        cases ht
      · obtain ⟨p, hp, rfl⟩ := List.mem_map.mp h
        rw [getS_mem k.ndc (x := p.1) (v := p.2) hp] at hc
        cases hc
def lonS (o : Of) : List Str := (sortS (o.ths.map (·.1) ++ o.cls.map (·.1))).filter fun x => decide (cand o x = [])
theorem lonely (k : Ok o) : g_lonely B [offD o] s = .ret (.lst ((lonS o).map D.str)) s := by
  unfold g_lonely
  rw [z_fn]
  have lt := k.lt
  have lc := k.lc
  have e := lc_pure (Γ := [.fr (offD o), .fr (.lst ((sortS (o.ths.map (·.1) ++ o.cls.map (·.1))).map D.str)), .no]) (s := s) (vs := [2]) (as := (XG.name B 2).as) (tt := (XT.ofE (.eq false [] (.len [] (.call 2 (g_candidates B) [(.var B 0), (.var B 2)] rfl)) (.int B 0))).ev) (ee := (XE.var B 2).ev) (enc := D.str) (l := fun x => [(2, .str x)]) (P := fun x => decide (cand o x = [])) (f := D.str) (sortS (o.ths.map (·.1) ++ o.cls.map (·.1)))
    (fun _ _ => rfl) (fun _ _ => rfl) (fun x hx => by
      have hx2 := (sortS_perm _).mem_iff.mp hx
      simp [cand_any k hx2]) (fun _ _ _ => by simp)
  have hlen : (sortS (o.ths.map (·.1) ++ o.cls.map (·.1))).length ≤ 40 := by
    rw [(sortS_perm _).length_eq, List.length_append, List.length_map, List.length_map]
    omega
  have l1 : (o_list B).f [thsD o] = some (.lst ((o.ths.map (·.1)).map D.str)) := by
    unfold thsD
    rw [f_listD, keys_enc]
  have l2 : (o_list B).f [clsD o] = some (.lst ((o.cls.map (·.1)).map D.str)) := by
    unfold clsD
    rw [f_listD, keys_enc]
  have l3 : (o_add B).f (.lst ((o.ths.map (·.1)).map D.str)) (.lst ((o.cls.map (·.1)).map D.str)) = some (.lst ((o.ths.map (·.1) ++ o.cls.map (·.1)).map D.str)) := by
    rw [f_cat (by simp; omega), List.map_append]
  have l4 := f_sortL (B := B) (l := o.ths.map (·.1) ++ o.cls.map (·.1)) (by rw [List.length_append, List.length_map, List.length_map]; omega)
  have main : (p_lonely B).ev [.fr (offD o), .no, .no] s = .ret (.lst ((lonS o).map D.str)) s := by
    unfold p_lonely
    refine (ev_seq (Γ1 := [.fr (offD o), .fr (.lst ((sortS (o.ths.map (·.1) ++ o.cls.map (·.1))).map D.str)), .no]) (s1 := s) ?_).trans ?_
    · refine (ev_set (ev_blt1 (ev_op2 (s1 := s) (s2 := s) (ev_blt1 (s1 := s) (d := thsD o) ?_ l1) (ev_blt1 (s1 := s) (d := clsD o) ?_ l2) l3) l4)).trans rfl
      · simp
      · simp
    · refine ev_ret (ev_lc (s1 := s) (ds := (sortS (o.ths.map (·.1) ++ o.cls.map (·.1))).map D.str) ?_ (by rw [List.length_map]; omega) e)
      simp
  exact congrArg Out.res main
def rivS (o : Of) (c : Str) (cl : Cl) : List Str := ((o.cls.filter fun q => !decide (q.1 = c)).filter fun q => (candC o cl).any fun t => match getS o.ths t with
  | some th => fitB o q.2 th
  | none => false).map (·.1)
theorem rivals (k : Ok o) (hc : getS o.cls c = some cl) : g_rivals B [offD o, .str c] s = .ret (.lst ((rivS o c cl).map D.str)) s := by
  unfold g_rivals
  rw [z_fn]
  have lc := k.lc
  have lt := k.lt
  have hcm := getS_some hc
  have e1 := lc_pure (Γ := [.fr (offD o), .fr (.str c), .fr (.lst ((candC o cl).map D.str)), .no, .no, .no]) (s := s) (vs := [4]) (as := (XG.name B 4).as) (tt := (XT.ofE (.eq true [] (.var B 4) (.var B 1))).ev) (ee := (XE.var B 4).ev) (enc := fun p : Str × Cl => D.str p.1) (l := fun p => [(4, .str p.1)]) (P := fun q => !decide (q.1 = c)) (f := fun p => D.str p.1) o.cls
    (fun _ _ => rfl) (fun _ _ => rfl) (fun p hp => by
      have := eq_strs (s := s) (neg := true) (k.sc p hp) (k.sc _ hcm)
      simp [this]) (fun _ _ _ => by simp)
  have inner : ∀ q ∈ o.cls, lcL (XG.name B 5).as (XT.yes B).ev (XE.call 3 (g_fits B) [(.var B 0), (.var B 4), (.var B 5)] rfl).ev [5] [.fr (offD o), .fr (.str c), .fr (.lst ((candC o cl).map D.str)), .fr (.lst ((o.cls.filter fun q => !decide (q.1 = c)).map fun p => D.str p.1)), .fr (.str q.1), .no] ((candC o cl).map D.str) s = some ((candC o cl).map fun t => D.bl (match getS o.ths t with
    | some th => fitB o q.2 th
    | none => false), s) := fun q hq => by
    have e := lc_pure (Γ := [.fr (offD o), .fr (.str c), .fr (.lst ((candC o cl).map D.str)), .fr (.lst ((o.cls.filter fun q => !decide (q.1 = c)).map fun p => D.str p.1)), .fr (.str q.1), .no]) (s := s) (vs := [5]) (as := (XG.name B 5).as) (tt := (XT.yes B).ev) (ee := (XE.call 3 (g_fits B) [(.var B 0), (.var B 4), (.var B 5)] rfl).ev) (enc := D.str) (l := fun x => [(5, .str x)]) (P := fun _ => true) (f := fun t => D.bl (match getS o.ths t with
      | some th => fitB o q.2 th
      | none => false)) (candC o cl)
      (fun _ _ => rfl) (fun _ _ => rfl) (fun _ _ => rfl) (fun t ht _ => by
        unfold candC at ht
        obtain ⟨p, hp, rfl⟩ := List.mem_map.mp ht
        have hp1 := (List.mem_filter.mp hp).1
        have g1 := getS_mem k.ndt (x := p.1) (v := p.2) hp1
        have g2 := getS_mem k.ndc (x := q.1) (v := q.2) hq
        simp [fits g2 g1 (k.hc q hq) (k.ht p hp1) k.lf, g1])
    rw [List.filter_eq_self.mpr fun _ _ => rfl] at e
    exact e
  have lcand : (candC o cl).length ≤ 20 := by
    unfold candC
    rw [List.length_map]
    have := List.length_filter_le (fun p => fitB o cl p.2) o.ths
    omega
  have e2 := lc_pure (Γ := [.fr (offD o), .fr (.str c), .fr (.lst ((candC o cl).map D.str)), .fr (.lst ((o.cls.filter fun q => !decide (q.1 = c)).map fun p => D.str p.1)), .no, .no]) (s := s) (vs := [4]) (as := (XG.name B 4).as) (tt := (XT.ofE (.blt (o_any B) [(.ofN (.lc (.wk (.var B 2)) (.name B 5) (.yes B) (.call 3 (g_fits B) [(.var B 0), (.var B 4), (.var B 5)] rfl) [5]))])).ev) (ee := (XE.var B 4).ev) (enc := fun p : Str × Cl => D.str p.1) (l := fun p => [(4, .str p.1)]) (P := fun q => (candC o cl).any fun t => match getS o.ths t with
      | some th => fitB o q.2 th
      | none => false) (f := fun p => D.str p.1) (o.cls.filter fun q => !decide (q.1 = c))
    (fun _ _ => rfl) (fun _ _ => rfl) (fun q hq => by
      have hi := inner q (List.mem_filter.mp hq).1
      simp [wipeG, hi, f_anyB, show (candC o cl).length ≤ 100000 by omega]) (fun _ _ _ => by simp)
  have lf : (o.cls.filter fun q => !decide (q.1 = c)).length ≤ 20 := by
    have := List.length_filter_le (fun q : Str × Cl => !decide (q.1 = c)) o.cls
    omega
  have main : (p_rivals B).ev [.fr (offD o), .fr (.str c), .no, .no, .no, .no] s = .ret (.lst ((rivS o c cl).map D.str)) s := by
    unfold p_rivals
    refine (ev_seq (Γ1 := [.fr (offD o), .fr (.str c), .no, .no, .no, .no]) (s1 := s) ?_).trans ?_
    · simp [claim_of hc]
    refine (ev_seq (Γ1 := [.fr (offD o), .fr (.str c), .fr (.lst ((candC o cl).map D.str)), .no, .no, .no]) (s1 := s) ?_).trans ?_
    · simp [cand_claim k hc]
    refine (ev_seq (Γ1 := [.fr (offD o), .fr (.str c), .fr (.lst ((candC o cl).map D.str)), .fr (.lst ((o.cls.filter fun q => !decide (q.1 = c)).map fun p => D.str p.1)), .no, .no]) (s1 := s) ?_).trans ?_
    · refine (ev_set (ev_lc (s1 := s) (ds := o.cls.map fun p => D.str p.1) ?_ (by rw [List.length_map]; omega) e1)).trans rfl
      simp [walk_cls]
    · refine (ev_ret (ev_lc (s1 := s) (ds := (o.cls.filter fun q => !decide (q.1 = c)).map fun p => D.str p.1) ?_ (by rw [List.length_map]; omega) e2)).trans ?_
      · simp
      · unfold rivS
        rw [List.map_map]
        rfl
  exact congrArg Out.res main
end
end Lo

set_option Elab.async false
set_option linter.all false
set_option maxRecDepth 100000
namespace K6
open PySem PySem.Spec PyProof.Rows L2 Evl Dv Lo
theorem scals_strs : ∀ l : List Str, scals (l.map D.str) = true
  | [] => rfl
  | x :: r => by
    show (scal (D.str x) && scals (r.map D.str)) = true
    rw [scals_strs r]
    rfl
theorem ev_viewN {B : Bs} {Γ : Gm} {s s1 : HS} {p : XN B} {l : List Str} (h : p.ev (frzA Γ) s = .ret (.lst (l.map D.str)) s1) : (XN.view p).ev Γ s = .ret (.lst (l.map D.str)) s1 := by
  unfold XN.view
  dsimp only
  rw [h]
  exact if_pos (scals_strs l)
theorem ev_lcN {B : Bs} {Γ : Gm} {s s1 s2 : HS} {it : XI B} {g : XG B} {t : XT B} {x : XE B} {vs : List Nat} {ds zs : List D} (h1 : it.ev Γ s = .ret (.lst ds) s1) (hl : ds.length ≤ 100000) (h2 : lcL g.as t.ev x.ev vs (wipeG Γ vs) ds s1 = some (zs, s2)) : (XN.lc it g t x vs).ev Γ s = .ret (.lst zs) s2 := ev_lc (B := B) h1 hl h2
theorem rep01 {B : Bs} {d : D} {b : Bool} : (o_mul B).f (.lst [d]) (.int (if b = true then 1 else 0)) = some (.lst (if b = true then [d] else [])) := by
  cases b
  · rw [f_rep (by decide) (by decide) (by simp)]
    rfl
  · rw [f_rep (by decide) (by decide) (by simp)]
    rfl
def lD (w : List Str) : D := .lst (w.map D.str)
def oc (o : Of) : List (Str × List Str) := o.cls.map fun p => (p.1, candC o p.2)
def dcO (o : Of) : D := .dic true ((oc o).map (encK lD))
theorem oc_names {o : Of} : (oc o).map (·.1) = o.cls.map (·.1) := by
  unfold oc
  rw [List.map_map]
  rfl
theorem oc_get {o : Of} (k : Ok o) {p : Str × Cl} (hp : p ∈ o.cls) : getS (oc o) p.1 = some (candC o p.2) := by
  refine getS_mem (by rw [oc_names]; exact k.ndc) ?_
  exact List.mem_map.mpr ⟨p, hp, rfl⟩
theorem ix_oc {o : Of} (k : Ok o) {p : Str × Cl} (hp : p ∈ o.cls) {hs : Hd} {s : HS} : ixE hs (dcO o) (.str p.1) s = .ret (lD (candC o p.2)) s := ix_enc (oc_get k hp)
theorem candC_len {o : Of} (k : Ok o) {cl : Cl} : (candC o cl).length ≤ 20 := by
  unfold candC
  rw [List.length_map]
  have := List.length_filter_le (fun p => fitB o cl p.2) o.ths
  have := k.lt
  omega
theorem candT_len {o : Of} (k : Ok o) {th : Th} : (candT o th).length ≤ 20 := by
  unfold candT
  rw [List.length_map]
  have := List.length_filter_le (fun p => fitB o p.2 th) o.cls
  have := k.lc
  omega
theorem candC_sok {o : Of} (k : Ok o) {cl : Cl} : Sok (candC o cl) := fun x hx => by
  unfold candC at hx
  obtain ⟨p, hp, rfl⟩ := List.mem_map.mp hx
  exact k.st p (List.mem_filter.mp hp).1
theorem candT_sok {o : Of} (k : Ok o) {th : Th} : Sok (candT o th) := fun x hx => by
  unfold candT at hx
  obtain ⟨p, hp, rfl⟩ := List.mem_map.mp hx
  exact k.sc p (List.mem_filter.mp hp).1
theorem candC_mem {o : Of} {cl : Cl} {t : Str} : t ∈ candC o cl ↔ ∃ r ∈ o.ths, r.1 = t ∧ fitB o cl r.2 = true := by
  unfold candC
  rw [List.mem_map]
  constructor
  · rintro ⟨r, hr, e⟩
    obtain ⟨h1, h2⟩ := List.mem_filter.mp hr
    exact ⟨r, h1, e, h2⟩
  · rintro ⟨r, h1, e, h2⟩
    exact ⟨r, List.mem_filter.mpr ⟨h1, h2⟩, e⟩
theorem candC_of {o : Of} (k : Ok o) {cl : Cl} {q : Str × Th} (hq : q ∈ o.ths) : decide (q.1 ∈ candC o cl) = fitB o cl q.2 := by
  have : q.1 ∈ candC o cl ↔ fitB o cl q.2 = true := by
    rw [candC_mem]
    constructor
    · rintro ⟨r, h1, e, h2⟩
      have a := getS_mem k.ndt (x := r.1) (v := r.2) h1
      have b := getS_mem k.ndt (x := q.1) (v := q.2) hq
      rw [e, b] at a
      rw [Option.some.inj a]
      exact h2
    · exact fun h => ⟨q, hq, rfl, h⟩
  cases hf : fitB o cl q.2 with
  | true => exact decide_eq_true (this.mpr hf)
  | false => exact decide_eq_false fun z => by rw [this.mp z] at hf; cases hf
def shd (o : Of) (cl cl' : Cl) : List Str := (candC o cl').filter fun t => decide (t ∈ candC o cl)
def dueS (o : Of) (p : Str × Cl) (ls : List (Str × Cl)) : List Str := (ls.filter fun q => !decide (q.1 = p.1) && !decide (shd o p.2 q.2 = [])).map (·.1)
theorem riv_eq {o : Of} (k : Ok o) {p : Str × Cl} (hp : p ∈ o.cls) : rivS o p.1 p.2 = dueS o p o.cls := by
  unfold rivS dueS
  rw [List.filter_filter]
  congr 1
  refine List.filter_congr fun q hq => ?_
  rw [Bool.and_comm]
  congr 1
  have : ((candC o p.2).any fun t => match getS o.ths t with
      | some th => fitB o q.2 th
      | none => false) = true ↔ ¬ shd o p.2 q.2 = [] := by
    rw [List.any_eq_true]
    constructor
    · rintro ⟨t, ht, hf⟩ z
      obtain ⟨r, hr, rfl, h2⟩ := candC_mem.mp ht
      rw [getS_mem k.ndt (x := r.1) (v := r.2) hr] at hf
      have : r.1 ∈ shd o p.2 q.2 := List.mem_filter.mpr ⟨candC_mem.mpr ⟨r, hr, rfl, hf⟩, decide_eq_true ht⟩
      rw [z] at this
      cases this
    · intro h
      obtain ⟨t, ht⟩ := List.exists_mem_of_ne_nil _ h
      obtain ⟨h1, h2⟩ := List.mem_filter.mp ht
      obtain ⟨r, hr, rfl, h3⟩ := candC_mem.mp h1
      refine ⟨r.1, of_decide_eq_true h2, ?_⟩
      rw [getS_mem k.ndt (x := r.1) (v := r.2) hr]
      exact h3
  by_cases h : shd o p.2 q.2 = []
  · rw [decide_eq_true h]
    cases hb : (candC o p.2).any _ with
    | true => exact absurd h (this.mp hb)
    | false => rfl
  · rw [decide_eq_false h]
    exact this.mpr h
theorem dueS_len {o : Of} (k : Ok o) {p : Str × Cl} : (dueS o p o.cls).length ≤ 20 := by
  unfold dueS
  rw [List.length_map]
  have := List.length_filter_le (fun q : Str × Cl => !decide (q.1 = p.1) && !decide (shd o p.2 q.2 = [])) o.cls
  have := k.lc
  omega
theorem dueS_sok {o : Of} (k : Ok o) {p : Str × Cl} : Sok (dueS o p o.cls) := fun x hx => by
  unfold dueS at hx
  obtain ⟨q, hq, rfl⟩ := List.mem_map.mp hx
  exact k.sc q (List.mem_filter.mp hq).1
theorem walk_dths {o : Of} : walkOf (dths o) = some (o.ths.map fun p => D.str p.1) := by
  unfold dths
  rw [z_wkD, keys_enc, List.map_map]
  rfl
theorem walk_dcls {o : Of} : walkOf (dcls o) = some (o.cls.map fun p => D.str p.1) := by
  unfold dcls
  rw [z_wkD, keys_enc, List.map_map]
  rfl
section
variable {B : Bs} {s : HS} {o : Of} {a0 a2 : Sl}
/-- what of each claim could be its thing -/
def putB (B : Bs) : XS B := .dput 6 (.var B 7) (.ofN (.lc (.wk (.ix [] (.var B 3) (.int B 1))) (.name B 11) (.ofE (.call 3 (g__law_can B) [(.var B 3), (.var B 7), (.var B 11)] rfl)) (.var B 11) [11]))
theorem put_ok (h : Dr o) : ∀ (ls acc : List (Str × Cl)) (x7 x8 x9 x10 x11 : Sl), acc ++ ls = o.cls → ∃ y7, forL (XG.name B 7) (putB B).ev (ls.map fun q => D.str q.1) [a0, .fr .hnd, a2, .fr (drD o), .fr (offD o), .fr (lD []), .dco ((acc.map fun p => (p.1, candC o p.2)).map (encK lD)), x7, x8, x9, x10, x11] s = .nxt [a0, .fr .hnd, a2, .fr (drD o), .fr (offD o), .fr (lD []), .dco ((oc o).map (encK lD)), y7, x8, x9, x10, x11] s
  | [], acc, x7, x8, x9, x10, x11, he => ⟨x7, by rw [List.append_nil] at he; rw [he]; rfl⟩
  | p :: ls, acc, x7, x8, x9, x10, x11, he => by
    have k := h.ok
    have hl := k.lt
    have hlc := k.lc
    have hpm : p ∈ o.cls := by rw [← he]; simp
    have hc := getS_mem k.ndc (x := p.1) (v := p.2) hpm
    obtain ⟨y7, e⟩ := put_ok h ls (acc ++ [p]) (.fr (.str p.1)) x8 x9 x10 x11 (by rw [List.append_assoc]; exact he)
    refine ⟨y7, (for_cons (l := [(7, .str p.1)]) rfl ?_).trans e⟩
    show (putB B).ev [a0, .fr .hnd, a2, .fr (drD o), .fr (offD o), .fr (lD []), .dco ((acc.map fun p => (p.1, candC o p.2)).map (encK lD)), .fr (.str p.1), x8, x9, x10, x11] s = _
    have sc := vs_hasS h (h.cok p hpm).v
    have e1 := lc_pure (Γ := [a0, .fr .hnd, a2, .fr (drD o), .fr (offD o), .fr (lD []), .dco ((acc.map fun p => (p.1, candC o p.2)).map (encK lD)), .fr (.str p.1), x8, x9, x10, .no]) (s := s) (vs := [11]) (as := (XG.name B 11).as) (tt := (XT.ofE (.call 3 (g__law_can B) [(.var B 3), (.var B 7), (.var B 11)] rfl)).ev) (ee := (XE.var B 11).ev) (enc := fun q : Str × Th => D.str q.1) (l := fun q => [(11, .str q.1)]) (P := fun q => fitB o p.2 q.2) (f := fun q => D.str q.1) o.ths
      (fun _ _ => rfl) (fun _ _ => rfl) (fun q hq => by
        have ht := getS_mem k.ndt (x := q.1) (v := q.2) hq
        have lf := h.flen
        simp [law_can (B := B) (s := s) hc ht sc (vs_hasS h (h.tok q hq).v) (by omega)]) (fun _ _ _ => by simp)
    have hm : (o.ths.filter fun q => fitB o p.2 q.2).map (fun q => D.str q.1) = (candC o p.2).map D.str := by
      unfold candC
      rw [List.map_map]
      rfl
    rw [hm] at e1
    have hne : p.1 ∉ (acc.map fun p => (p.1, candC o p.2)).map (·.1) := fun z => by
      have hnd := k.ndc
      rw [← he, List.map_append] at hnd
      rw [List.map_map] at z
      have := (List.nodup_append.mp hnd).2.2 p.1 z p.1 (by simp)
      exact this rfl
    have hlen : acc.length ≤ o.cls.length := by rw [← he, List.length_append]; omega
    refine (ev_dput (x := p.1) (d := lD (candC o p.2)) (s1 := s) (s2 := s) rfl (by rw [List.length_map, List.length_map]; omega) (ev_lc (s1 := s) (ds := o.ths.map fun q => D.str q.1) ?_ (by rw [List.length_map]; omega) e1) rfl).trans ?_
    · simp [walk_dths]
    · rw [put_new (f := lD) hne]
      have : (acc.map fun p => (p.1, candC o p.2)) ++ [(p.1, candC o p.2)] = (acc ++ [p]).map fun p => (p.1, candC o p.2) := by rw [List.map_append]; rfl
      rw [this]
      rfl
/-- of a claim: nothing to do with it, its candidates, its rivals -/
def c4a (B : Bs) : XS B := .frzM 6 (.set 5 (.op2 (o_add B) (.var B 5) (.op2 (o_mul B) (.ofN (.lst [(.var B 7)])) (.blt (o_int B) [(.eq false [] (.ix [] (.var B 6) (.var B 7)) (.ofN (.lst [])))]))))
def c4b (B : Bs) : XS B := .ite (.view (.not (.ofE (.call 2 (g__law_alike B 6) [(.call 2 (g_candidates B) [(.var B 4), (.var B 7)] rfl), (.ix [] (.var B 6) (.var B 7))] rfl)))) (.ret (.bl B false)) (.pass B)
def c4d (B : Bs) : XS B := .seq (.set 10 (.ofN (.view (.lc (.wk (.ix [] (.var B 6) (.var B 9))) (.name B 11) (.ofE (.in false [] (.var B 11) (.ix [] (.var B 6) (.var B 7)))) (.var B 11) [11])))) (.ite ((.and (.ofE (.eq true [] (.var B 9) (.var B 7))) (.ofE (.eq true [] (.var B 10) (.ofN (.lst [])))))) (.app 8 (.var B 9)) (.pass B))
def c4e (B : Bs) : XS B := .ite (.view (.not (.ofE (.call 2 (g__law_alike B 6) [(.call 2 (g_rivals B) [(.var B 4), (.var B 7)] rfl), (.var B 8)] rfl)))) (.ret (.bl B false)) (.pass B)
def c4 (B : Bs) : XS B := .seq (c4a B) (.seq (c4b B) (.seq (.setN 8 (.lst [])) (.seq (.for (.wk (.ix [] (.var B 3) (.int B 2))) (.name B 9) (c4d B)) (c4e B))))
/-- slot 6: the dict, locked or not -/
def Is6 (o : Of) (x : Sl) : Prop := x = .dco ((oc o).map (encK lD)) ∨ x = .fr (dcO o)
theorem s4a {x6 x8 x9 x10 x11 : Sl} (k : Ok o) {p : Str × Cl} (hp : p ∈ o.cls) (h6 : Is6 o x6) {n : List Str} (hn : n.length ≤ 1000) :
    (c4a B).ev [a0, .fr .hnd, a2, .fr (drD o), .fr (offD o), .fr (lD n), x6, .fr (.str p.1), x8, x9, x10, x11] s = .nxt [a0, .fr .hnd, a2, .fr (drD o), .fr (offD o), .fr (lD (n ++ if decide (candC o p.2 = []) = true then [p.1] else [])), .fr (dcO o), .fr (.str p.1), x8, x9, x10, x11] s := by
  have h1 : (c4a B).ev [a0, .fr .hnd, a2, .fr (drD o), .fr (offD o), .fr (lD n), x6, .fr (.str p.1), x8, x9, x10, x11] s = (XS.set 5 (.op2 (o_add B) (.var B 5) (.op2 (o_mul B) (.ofN (.lst [(.var B 7)])) (.blt (o_int B) [(.eq false [] (.ix [] (.var B 6) (.var B 7)) (.ofN (.lst [])))])))).ev [a0, .fr .hnd, a2, .fr (drD o), .fr (offD o), .fr (lD n), .fr (dcO o), .fr (.str p.1), x8, x9, x10, x11] s := by
    rcases h6 with rfl | rfl <;> rfl
  rw [h1]
  have e0 : (XE.eq false [] (.ix [] (.var B 6) (.var B 7)) (.ofN (.lst []))).ev [a0, .fr .hnd, a2, .fr (drD o), .fr (offD o), .fr (lD n), .fr (dcO o), .fr (.str p.1), x8, x9, x10, x11] s = .ret (.bl (decide (candC o p.2 = []))) s := by
    have := eq_nil (neg := false) (s := s) (candC_sok k (cl := p.2))
    simp only [z_eq, z_ix, z_var, List.getElem?_cons_succ, List.getElem?_cons_zero, z_get, z_bind, ix_oc k hp, z_ofN, z_lst, z_evs0]
    exact this
  have e1 : (XE.blt (o_int B) [(.eq false [] (.ix [] (.var B 6) (.var B 7)) (.ofN (.lst [])))]).ev [a0, .fr .hnd, a2, .fr (drD o), .fr (offD o), .fr (lD n), .fr (dcO o), .fr (.str p.1), x8, x9, x10, x11] s = .ret (.int (if decide (candC o p.2 = []) = true then 1 else 0)) s := ev_blt1 e0 rfl
  have hcat : (o_add B).f (lD n) (.lst (if decide (candC o p.2 = []) = true then [D.str p.1] else [])) = some (lD (n ++ if decide (candC o p.2 = []) = true then [p.1] else [])) := by
    have hl : (if decide (candC o p.2 = []) = true then [D.str p.1] else []).length ≤ 1 := by split <;> simp
    unfold lD
    rw [f_cat (by rw [List.length_map]; omega), List.map_append]
    cases decide (candC o p.2 = []) <;> rfl
  exact (ev_set (ev_op2 (s1 := s) (s2 := s) (d := lD n) rfl (ev_op2 (s1 := s) (s2 := s) (d := .lst [.str p.1]) rfl e1 rep01) hcat)).trans rfl
theorem s4b {x5 x8 x9 x10 x11 : Sl} (k : Ok o) {p : Str × Cl} (hp : p ∈ o.cls) :
    (c4b B).ev [a0, .fr .hnd, a2, .fr (drD o), .fr (offD o), x5, .fr (dcO o), .fr (.str p.1), x8, x9, x10, x11] s = .nxt [a0, .fr .hnd, a2, .fr (drD o), .fr (offD o), x5, .fr (dcO o), .fr (.str p.1), x8, x9, x10, x11] s := by
  have hc := getS_mem k.ndc (x := p.1) (v := p.2) hp
  have al := alike_ok (B := B) 6 _ _ s (al_strs (n := 4) (candC_sok k (cl := p.2)) (by have := candC_len k (cl := p.2); omega))
  refine ev_iteF (ev_viewT ?_)
  have hg : frzA [a0, .fr .hnd, a2, .fr (drD o), .fr (offD o), x5, .fr (dcO o), .fr (.str p.1), x8, x9, x10, x11] = [frzS a0, .fr .hnd, frzS a2, .fr (drD o), .fr (offD o), frzS x5, .fr (dcO o), .fr (.str p.1), frzS x8, frzS x9, frzS x10, frzS x11] := rfl
  rw [hg]
  simp only [z_tnot, z_ofE, z_call, z_evs, z_evs0, z_var, z_ix, List.getElem?_cons_succ, List.getElem?_cons_zero, z_get, z_bind, cand_claim k hc, ix_oc k hp, lD, al, z_tst, z_bindB, Bool.not_true]
theorem s4d {x5 x11 : Sl} (k : Ok o) {p : Str × Cl} (hp : p ∈ o.cls) : ∀ (ls : List (Str × Cl)) (acc : List Str) (x9 x10 : Sl), (∀ q ∈ ls, q ∈ o.cls) → acc.length + ls.length ≤ 1000 →
    ∃ y9 y10, forL (XG.name B 9) (c4d B).ev (ls.map fun q => D.str q.1) [a0, .fr .hnd, a2, .fr (drD o), .fr (offD o), x5, .fr (dcO o), .fr (.str p.1), .lo (acc.map D.str), x9, x10, x11] s = .nxt [a0, .fr .hnd, a2, .fr (drD o), .fr (offD o), x5, .fr (dcO o), .fr (.str p.1), .lo ((acc ++ dueS o p ls).map D.str), y9, y10, x11] s
  | [], acc, x9, x10, _, _ => ⟨x9, x10, by unfold dueS; simp⟩
  | q :: ls, acc, x9, x10, hq, hl => by
    have hqm := hq q (List.mem_cons_self ..)
    have hl2 : (q :: ls).length = ls.length + 1 := rfl
    have e1 := lc_pure (Γ := [frzS a0, .fr .hnd, frzS a2, .fr (drD o), .fr (offD o), frzS x5, .fr (dcO o), .fr (.str p.1), .fr (.lst (acc.map D.str)), .fr (.str q.1), frzS x10, .no]) (s := s) (vs := [11]) (as := (XG.name B 11).as) (tt := (XT.ofE (.in false [] (.var B 11) (.ix [] (.var B 6) (.var B 7)))).ev) (ee := (XE.var B 11).ev) (enc := D.str) (l := fun x => [(11, .str x)]) (P := fun t => decide (t ∈ candC o p.2)) (f := D.str) (candC o q.2)
      (fun _ _ => rfl) (fun _ _ => rfl) (fun x _ => by simp [ix_oc k hp, lD]) (fun _ _ _ => by simp)
    have hs : (XS.set 10 (.ofN (.view (.lc (.wk (.ix [] (.var B 6) (.var B 9))) (.name B 11) (.ofE (.in false [] (.var B 11) (.ix [] (.var B 6) (.var B 7)))) (.var B 11) [11])))).ev [a0, .fr .hnd, a2, .fr (drD o), .fr (offD o), x5, .fr (dcO o), .fr (.str p.1), .lo (acc.map D.str), .fr (.str q.1), x10, x11] s = .nxt [a0, .fr .hnd, a2, .fr (drD o), .fr (offD o), x5, .fr (dcO o), .fr (.str p.1), .lo (acc.map D.str), .fr (.str q.1), .fr (lD (shd o p.2 q.2)), x11] s := by
      refine (ev_set (s1 := s) (d := lD (shd o p.2 q.2)) ?_).trans rfl
      refine ev_viewN (B := B) ?_
      have hg : frzA [a0, .fr .hnd, a2, .fr (drD o), .fr (offD o), x5, .fr (dcO o), .fr (.str p.1), .lo (acc.map D.str), .fr (.str q.1), x10, x11] = [frzS a0, .fr .hnd, frzS a2, .fr (drD o), .fr (offD o), frzS x5, .fr (dcO o), .fr (.str p.1), .fr (.lst (acc.map D.str)), .fr (.str q.1), frzS x10, frzS x11] := rfl
      rw [hg]
      refine ev_lcN (s1 := s) (ds := (candC o q.2).map D.str) ?_ (by rw [List.length_map]; have := candC_len k (cl := q.2); omega) e1
      simp [ix_oc k hqm, lD]
    have ht : (XT.and (.ofE (.eq true [] (.var B 9) (.var B 7))) (.ofE (.eq true [] (.var B 10) (.ofN (.lst []))))).ev [a0, .fr .hnd, a2, .fr (drD o), .fr (offD o), x5, .fr (dcO o), .fr (.str p.1), .lo (acc.map D.str), .fr (.str q.1), .fr (lD (shd o p.2 q.2)), x11] s = .ret (.bl (!decide (q.1 = p.1) && !decide (shd o p.2 q.2 = []))) s := by
      have e2 := eq_strs (s := s) (neg := true) (k.sc q hqm) (k.sc p hp)
      have e3 := eq_nil (neg := true) (s := s) (a := shd o p.2 q.2) (candC_sok k).filter
      simp [e2, e3, lD]
      by_cases h1 : q.1 = p.1
      · simp [h1]
      · simp [h1]
    by_cases hb : (!decide (q.1 = p.1) && !decide (shd o p.2 q.2 = [])) = true
    · rw [hb] at ht
      obtain ⟨y9, y10, e⟩ := s4d (x5 := x5) (x11 := x11) k hp ls (acc ++ [q.1]) (.fr (.str q.1)) (.fr (lD (shd o p.2 q.2))) (fun r hr => hq r (List.mem_cons_of_mem _ hr)) (by rw [List.length_append]; simp; omega)
      have hd : dueS o p (q :: ls) = q.1 :: dueS o p ls := by
        unfold dueS
        simp only [List.filter_cons, hb, if_true, List.map_cons]
      rw [hd, show acc ++ q.1 :: dueS o p ls = (acc ++ [q.1]) ++ dueS o p ls by simp]
      refine ⟨y9, y10, (for_cons (l := [(9, .str q.1)]) rfl ?_).trans e⟩
      refine (ev_seq (s1 := s) hs).trans ((ev_iteT ht).trans ((ev_app (d := .str q.1) (s1 := s) rfl (by rw [List.length_map]; omega) rfl).trans ?_))
      rw [List.map_append]
      rfl
    · rw [Bool.not_eq_true] at hb
      rw [hb] at ht
      obtain ⟨y9, y10, e⟩ := s4d (x5 := x5) (x11 := x11) k hp ls acc (.fr (.str q.1)) (.fr (lD (shd o p.2 q.2))) (fun r hr => hq r (List.mem_cons_of_mem _ hr)) (by omega)
      have hd : dueS o p (q :: ls) = dueS o p ls := by
        unfold dueS
        simp only [List.filter_cons, hb, Bool.false_eq_true, if_false]
      rw [hd]
      refine ⟨y9, y10, (for_cons (l := [(9, .str q.1)]) rfl ?_).trans e⟩
      exact (ev_seq (s1 := s) hs).trans (ev_iteF ht)
theorem s4e {x5 x9 x10 x11 : Sl} (k : Ok o) {p : Str × Cl} (hp : p ∈ o.cls) :
    (c4e B).ev [a0, .fr .hnd, a2, .fr (drD o), .fr (offD o), x5, .fr (dcO o), .fr (.str p.1), .lo ((dueS o p o.cls).map D.str), x9, x10, x11] s = .nxt [a0, .fr .hnd, a2, .fr (drD o), .fr (offD o), x5, .fr (dcO o), .fr (.str p.1), .lo ((dueS o p o.cls).map D.str), x9, x10, x11] s := by
  have hc := getS_mem k.ndc (x := p.1) (v := p.2) hp
  have al := alike_ok (B := B) 6 _ _ s (al_strs (n := 4) (dueS_sok k (p := p)) (by have := dueS_len k (p := p); omega))
  have hr := rivals (B := B) (s := s) k hc
  rw [riv_eq k hp] at hr
  refine ev_iteF (ev_viewT ?_)
  have hg : frzA [a0, .fr .hnd, a2, .fr (drD o), .fr (offD o), x5, .fr (dcO o), .fr (.str p.1), .lo ((dueS o p o.cls).map D.str), x9, x10, x11] = [frzS a0, .fr .hnd, frzS a2, .fr (drD o), .fr (offD o), frzS x5, .fr (dcO o), .fr (.str p.1), .fr (.lst ((dueS o p o.cls).map D.str)), frzS x9, frzS x10, frzS x11] := rfl
  rw [hg]
  simp only [z_tnot, z_ofE, z_call, z_evs, z_evs0, z_var, z_ix, List.getElem?_cons_succ, List.getElem?_cons_zero, z_get, z_bind, hr, al, z_tst, z_bindB, Bool.not_true]
/-- claims without candidates -/
def lonC (o : Of) (ls : List (Str × Cl)) : List Str := (ls.filter fun p => decide (candC o p.2 = [])).map (·.1)
theorem s4 {x11 : Sl} (k : Ok o) : ∀ (ls : List (Str × Cl)) (n : List Str) (x6 x7 x8 x9 x10 : Sl), Is6 o x6 → (∀ q ∈ ls, q ∈ o.cls) → n.length + ls.length ≤ 1000 →
    ∃ y6 y7 y8 y9 y10, Is6 o y6 ∧ forL (XG.name B 7) (c4 B).ev (ls.map fun q => D.str q.1) [a0, .fr .hnd, a2, .fr (drD o), .fr (offD o), .fr (lD n), x6, x7, x8, x9, x10, x11] s = .nxt [a0, .fr .hnd, a2, .fr (drD o), .fr (offD o), .fr (lD (n ++ lonC o ls)), y6, y7, y8, y9, y10, x11] s
  | [], n, x6, x7, x8, x9, x10, h6, _, _ => ⟨x6, x7, x8, x9, x10, h6, by unfold lonC; simp⟩
  | p :: ls, n, x6, x7, x8, x9, x10, h6, hq, hl => by
    have hp := hq p (List.mem_cons_self ..)
    have hlc := k.lc
    have hl2 : (p :: ls).length = ls.length + 1 := rfl
    have e1 := s4a (B := B) (s := s) (a0 := a0) (a2 := a2) (x8 := x8) (x9 := x9) (x10 := x10) (x11 := x11) k hp h6 (n := n) (by omega)
    have e2 := s4b (B := B) (s := s) (a0 := a0) (a2 := a2) (x5 := .fr (lD (n ++ if decide (candC o p.2 = []) = true then [p.1] else []))) (x8 := x8) (x9 := x9) (x10 := x10) (x11 := x11) k hp
    obtain ⟨y9, y10, e3⟩ := s4d (B := B) (s := s) (a0 := a0) (a2 := a2) (x5 := .fr (lD (n ++ if decide (candC o p.2 = []) = true then [p.1] else []))) (x11 := x11) k hp o.cls [] x9 x10 (fun _ z => z) (by simp; omega)
    rw [List.nil_append] at e3
    have e4 := s4e (B := B) (s := s) (a0 := a0) (a2 := a2) (x5 := .fr (lD (n ++ if decide (candC o p.2 = []) = true then [p.1] else []))) (x9 := y9) (x10 := y10) (x11 := x11) k hp
    have hlen : (n ++ if decide (candC o p.2 = []) = true then [p.1] else []).length ≤ n.length + 1 := by
      rw [List.length_append]
      have : (if decide (candC o p.2 = []) = true then [p.1] else []).length ≤ 1 := by split <;> simp
      omega
    obtain ⟨z6, z7, z8, z9, z10, h6', e5⟩ := s4 k ls (n ++ if decide (candC o p.2 = []) = true then [p.1] else []) (.fr (dcO o)) (.fr (.str p.1)) (.lo ((dueS o p o.cls).map D.str)) y9 y10 (.inr rfl) (fun r hr => hq r (List.mem_cons_of_mem _ hr)) (by omega)
    have hL : n ++ lonC o (p :: ls) = (n ++ if decide (candC o p.2 = []) = true then [p.1] else []) ++ lonC o ls := by
      unfold lonC
      rw [List.filter_cons]
      cases decide (candC o p.2 = []) <;> simp
    rw [hL]
    refine ⟨z6, z7, z8, z9, z10, h6', (for_cons (l := [(7, .str p.1)]) rfl ?_).trans e5⟩
    unfold c4
    refine (ev_seq (s1 := s) e1).trans ((ev_seq (s1 := s) e2).trans ?_)
    refine (ev_seq (s1 := s) (Γ1 := [a0, .fr .hnd, a2, .fr (drD o), .fr (offD o), .fr (lD (n ++ if decide (candC o p.2 = []) = true then [p.1] else [])), .fr (dcO o), .fr (.str p.1), .lo [], x9, x10, x11]) rfl).trans ?_
    refine (ev_seq (s1 := s) ((ev_for (s1 := s) (ds := o.cls.map fun q => D.str q.1) ?_).trans e3)).trans e4
    simp [walk_dcls]
theorem ev_setN' {Γ : Gm} {s1 : HS} {i : Nat} {p : XN B} {ds : List D} (h : p.ev Γ s = .ret (.lst ds) s1) : (XS.setN i p).ev Γ s = .nxt (Γ.set i (.lo ds)) s1 := by
  unfold XS.setN
  dsimp only
  rw [h]
  exact rfl
def c5a (B : Bs) : XS B := .setN 8 (.view (.lc (.wk (.ix [] (.var B 3) (.int B 2))) (.name B 7) (.ofE (.in false [] (.var B 11) (.ix [] (.var B 6) (.var B 7)))) (.var B 7) [7]))
def c5b (B : Bs) : XS B := .frz 8 (.set 5 (.op2 (o_add B) (.var B 5) (.op2 (o_mul B) (.ofN (.lst [(.var B 11)])) (.blt (o_int B) [(.eq false [] (.var B 8) (.ofN (.lst [])))]))))
def c5c (B : Bs) : XS B := .ite (.view (.not (.ofE (.call 2 (g__law_alike B 6) [(.call 2 (g_candidates B) [(.var B 4), (.var B 11)] rfl), (.var B 8)] rfl)))) (.ret (.bl B false)) (.pass B)
def c5 (B : Bs) : XS B := .seq (c5a B) (.seq (c5b B) (c5c B))
theorem cls_none (k : Ok o) {q : Str × Th} (hq : q ∈ o.ths) : getS o.cls q.1 = none := by
  cases h : getS o.cls q.1 with
  | none => rfl
  | some c =>
    have h1 := k.dis _ (getS_some h)
    rw [getS_mem k.ndt (x := q.1) (v := q.2) hq] at h1
    cases h1
theorem s5a {x5 x6 x7 x8 x9 x10 : Sl} (k : Ok o) {q : Str × Th} (hq : q ∈ o.ths) (h6 : Is6 o x6) :
    (c5a B).ev [a0, .fr .hnd, a2, .fr (drD o), .fr (offD o), x5, x6, x7, x8, x9, x10, .fr (.str q.1)] s = .nxt [a0, .fr .hnd, a2, .fr (drD o), .fr (offD o), x5, x6, x7, .lo ((candT o q.2).map D.str), x9, x10, .fr (.str q.1)] s := by
  obtain ⟨pl, h6'⟩ : ∃ pl, frzS x6 = .fr (.dic pl ((oc o).map (encK lD))) := by
    rcases h6 with rfl | rfl
    · exact ⟨false, rfl⟩
    · exact ⟨true, rfl⟩
  have lc := k.lc
  have e1 := lc_pure (Γ := [frzS a0, .fr .hnd, frzS a2, .fr (drD o), .fr (offD o), frzS x5, .fr (.dic pl ((oc o).map (encK lD))), .no, frzS x8, frzS x9, frzS x10, .fr (.str q.1)]) (s := s) (vs := [7]) (as := (XG.name B 7).as) (tt := (XT.ofE (.in false [] (.var B 11) (.ix [] (.var B 6) (.var B 7)))).ev) (ee := (XE.var B 7).ev) (enc := fun p : Str × Cl => D.str p.1) (l := fun p => [(7, .str p.1)]) (P := fun p => decide (q.1 ∈ candC o p.2)) (f := fun p => D.str p.1) o.cls
    (fun _ _ => rfl) (fun _ _ => rfl) (fun p hp => by simp [lookK_enc, oc_get k hp, lD]) (fun _ _ _ => by simp)
  have hm : (o.cls.filter fun p => decide (q.1 ∈ candC o p.2)).map (fun p => D.str p.1) = (candT o q.2).map D.str := by
    unfold candT
    rw [List.map_map, List.filter_congr fun p _ => candC_of k (cl := p.2) hq]
    rfl
  rw [hm] at e1
  refine (ev_setN' (B := B) (s1 := s) (ev_viewN (B := B) ?_)).trans rfl
  have hg : frzA [a0, .fr .hnd, a2, .fr (drD o), .fr (offD o), x5, x6, x7, x8, x9, x10, .fr (.str q.1)] = [frzS a0, .fr .hnd, frzS a2, .fr (drD o), .fr (offD o), frzS x5, .fr (.dic pl ((oc o).map (encK lD))), frzS x7, frzS x8, frzS x9, frzS x10, .fr (.str q.1)] := by rw [← h6']; rfl
  rw [hg]
  refine ev_lcN (s1 := s) (ds := o.cls.map fun p : Str × Cl => D.str p.1) ?_ (by rw [List.length_map]; omega) e1
  simp [walk_dcls]
theorem s5b {x6 x7 x9 x10 : Sl} (k : Ok o) {q : Str × Th} {n : List Str} (hn : n.length ≤ 1000) :
    (c5b B).ev [a0, .fr .hnd, a2, .fr (drD o), .fr (offD o), .fr (lD n), x6, x7, .lo ((candT o q.2).map D.str), x9, x10, .fr (.str q.1)] s = .nxt [a0, .fr .hnd, a2, .fr (drD o), .fr (offD o), .fr (lD (n ++ if decide (candT o q.2 = []) = true then [q.1] else [])), x6, x7, .fr (lD (candT o q.2)), x9, x10, .fr (.str q.1)] s := by
  refine ev_frz ?_
  have hg : frzG [a0, .fr .hnd, a2, .fr (drD o), .fr (offD o), .fr (lD n), x6, x7, .lo ((candT o q.2).map D.str), x9, x10, .fr (.str q.1)] 8 = [a0, .fr .hnd, a2, .fr (drD o), .fr (offD o), .fr (lD n), x6, x7, .fr (lD (candT o q.2)), x9, x10, .fr (.str q.1)] := rfl
  rw [hg]
  have e0 : (XE.eq false [] (.var B 8) (.ofN (.lst []))).ev [a0, .fr .hnd, a2, .fr (drD o), .fr (offD o), .fr (lD n), x6, x7, .fr (lD (candT o q.2)), x9, x10, .fr (.str q.1)] s = .ret (.bl (decide (candT o q.2 = []))) s := by
    have := eq_nil (neg := false) (s := s) (candT_sok k (th := q.2))
    simp only [z_eq, z_var, List.getElem?_cons_succ, List.getElem?_cons_zero, z_get, z_bind, z_ofN, z_lst, z_evs0]
    exact this
  have e1 : (XE.blt (o_int B) [(.eq false [] (.var B 8) (.ofN (.lst [])))]).ev [a0, .fr .hnd, a2, .fr (drD o), .fr (offD o), .fr (lD n), x6, x7, .fr (lD (candT o q.2)), x9, x10, .fr (.str q.1)] s = .ret (.int (if decide (candT o q.2 = []) = true then 1 else 0)) s := ev_blt1 e0 rfl
  have hcat : (o_add B).f (lD n) (.lst (if decide (candT o q.2 = []) = true then [D.str q.1] else [])) = some (lD (n ++ if decide (candT o q.2 = []) = true then [q.1] else [])) := by
    have hl : (if decide (candT o q.2 = []) = true then [D.str q.1] else []).length ≤ 1 := by split <;> simp
    unfold lD
    rw [f_cat (by rw [List.length_map]; omega), List.map_append]
    cases decide (candT o q.2 = []) <;> rfl
  exact (ev_set (ev_op2 (s1 := s) (s2 := s) (d := lD n) rfl (ev_op2 (s1 := s) (s2 := s) (d := .lst [.str q.1]) rfl e1 rep01) hcat)).trans rfl
theorem s5c {x5 x6 x7 x9 x10 : Sl} (k : Ok o) {q : Str × Th} (hq : q ∈ o.ths) :
    (c5c B).ev [a0, .fr .hnd, a2, .fr (drD o), .fr (offD o), x5, x6, x7, .fr (lD (candT o q.2)), x9, x10, .fr (.str q.1)] s = .nxt [a0, .fr .hnd, a2, .fr (drD o), .fr (offD o), x5, x6, x7, .fr (lD (candT o q.2)), x9, x10, .fr (.str q.1)] s := by
  have ht := getS_mem k.ndt (x := q.1) (v := q.2) hq
  have al := alike_ok (B := B) 6 _ _ s (al_strs (n := 4) (candT_sok k (th := q.2)) (by have := candT_len k (th := q.2); omega))
  refine ev_iteF (ev_viewT ?_)
  have hg : frzA [a0, .fr .hnd, a2, .fr (drD o), .fr (offD o), x5, x6, x7, .fr (lD (candT o q.2)), x9, x10, .fr (.str q.1)] = [frzS a0, .fr .hnd, frzS a2, .fr (drD o), .fr (offD o), frzS x5, frzS x6, frzS x7, .fr (lD (candT o q.2)), frzS x9, frzS x10, .fr (.str q.1)] := rfl
  rw [hg]
  simp only [z_tnot, z_ofE, z_call, z_evs, z_evs0, z_var, List.getElem?_cons_succ, List.getElem?_cons_zero, z_get, z_bind, cand_thing k (cls_none k hq) ht, lD, al, z_tst, z_bindB, Bool.not_true]
def lonT (o : Of) (ls : List (Str × Th)) : List Str := (ls.filter fun q => decide (candT o q.2 = [])).map (·.1)
theorem s5 (k : Ok o) : ∀ (ls : List (Str × Th)) (n : List Str) (x6 x7 x8 x9 x10 x11 : Sl), Is6 o x6 → (∀ q ∈ ls, q ∈ o.ths) → n.length + ls.length ≤ 1000 →
    ∃ y7 y8 y9 y10 y11, forL (XG.name B 11) (c5 B).ev (ls.map fun q => D.str q.1) [a0, .fr .hnd, a2, .fr (drD o), .fr (offD o), .fr (lD n), x6, x7, x8, x9, x10, x11] s = .nxt [a0, .fr .hnd, a2, .fr (drD o), .fr (offD o), .fr (lD (n ++ lonT o ls)), x6, y7, y8, y9, y10, y11] s
  | [], n, x6, x7, x8, x9, x10, x11, _, _, _ => ⟨x7, x8, x9, x10, x11, by unfold lonT; simp⟩
  | q :: ls, n, x6, x7, x8, x9, x10, x11, h6, hq, hl => by
    have hqm := hq q (List.mem_cons_self ..)
    have hl2 : (q :: ls).length = ls.length + 1 := rfl
    have e1 := s5a (B := B) (s := s) (a0 := a0) (a2 := a2) (x5 := .fr (lD n)) (x7 := x7) (x8 := x8) (x9 := x9) (x10 := x10) k hqm h6
    have e2 := s5b (B := B) (s := s) (a0 := a0) (a2 := a2) (x6 := x6) (x7 := x7) (x9 := x9) (x10 := x10) (q := q) k (n := n) (by omega)
    have e3 := s5c (B := B) (s := s) (a0 := a0) (a2 := a2) (x5 := .fr (lD (n ++ if decide (candT o q.2 = []) = true then [q.1] else []))) (x6 := x6) (x7 := x7) (x9 := x9) (x10 := x10) k hqm
    have hlen : (n ++ if decide (candT o q.2 = []) = true then [q.1] else []).length ≤ n.length + 1 := by
      rw [List.length_append]
      have : (if decide (candT o q.2 = []) = true then [q.1] else []).length ≤ 1 := by split <;> simp
      omega
    obtain ⟨z7, z8, z9, z10, z11, e5⟩ := s5 k ls (n ++ if decide (candT o q.2 = []) = true then [q.1] else []) x6 x7 (.fr (lD (candT o q.2))) x9 x10 (.fr (.str q.1)) h6 (fun r hr => hq r (List.mem_cons_of_mem _ hr)) (by omega)
    have hL : n ++ lonT o (q :: ls) = (n ++ if decide (candT o q.2 = []) = true then [q.1] else []) ++ lonT o ls := by
      unfold lonT
      rw [List.filter_cons]
      cases decide (candT o q.2 = []) <;> simp
    rw [hL]
    refine ⟨z7, z8, z9, z10, z11, (for_cons (l := [(11, .str q.1)]) rfl ?_).trans e5⟩
    unfold c5
    exact (ev_seq (s1 := s) e1).trans ((ev_seq (s1 := s) e2).trans e3)
theorem lon_eq (k : Ok o) : sortS (lonC o o.cls ++ lonT o o.ths) = lonS o := by
  unfold lonS
  refine sort_filter ?_
  rw [List.filter_append]
  have h1 : (o.ths.map (·.1)).filter (fun x => decide (cand o x = [])) = lonT o o.ths := by
    unfold lonT
    rw [List.filter_map]
    congr 1
    refine List.filter_congr fun q hq => ?_
    show decide (cand o q.1 = []) = _
    have : cand o q.1 = candT o q.2 := by
      unfold cand
      rw [cls_none k hq]
      dsimp only
      rw [getS_mem k.ndt (x := q.1) (v := q.2) hq]
    rw [this]
  have h2 : (o.cls.map (·.1)).filter (fun x => decide (cand o x = [])) = lonC o o.cls := by
    unfold lonC
    rw [List.filter_map]
    congr 1
    refine List.filter_congr fun p hp => ?_
    show decide (cand o p.1 = []) = _
    have : cand o p.1 = candC o p.2 := by
      unfold cand
      rw [getS_mem k.ndc (x := p.1) (v := p.2) hp]
    rw [this]
  rw [h1, h2]
  exact List.perm_append_comm
theorem lonS_ok (k : Ok o) : Sok (lonS o) ∧ (lonS o).length ≤ 40 := by
  have lt := k.lt
  have lc := k.lc
  constructor
  · intro x hx
    unfold lonS at hx
    have hx2 := (sortS_perm _).mem_iff.mp (List.mem_filter.mp hx).1
    rcases List.mem_append.mp hx2 with h | h
    · obtain ⟨p, hp, rfl⟩ := List.mem_map.mp h
      exact k.st p hp
    · obtain ⟨p, hp, rfl⟩ := List.mem_map.mp h
      exact k.sc p hp
  · unfold lonS
    refine Nat.le_trans (List.length_filter_le _ _) ?_
    rw [(sortS_perm _).length_eq, List.length_append, List.length_map, List.length_map]
    omega
def c6 (B : Bs) : XS B := .ite (.not (.ofE (.call 2 (g__law_alike B 6) [(.call 1 (g_lonely B) [(.var B 4)] rfl), (.blt (o_sorted B) [(.var B 5)])] rfl))) (.ret (.bl B false)) (.pass B)
theorem s6 {x6 x7 x8 x9 x10 x11 : Sl} (k : Ok o) : (c6 B).ev [a0, .fr .hnd, a2, .fr (drD o), .fr (offD o), .fr (lD (lonC o o.cls ++ lonT o o.ths)), x6, x7, x8, x9, x10, x11] s = .nxt [a0, .fr .hnd, a2, .fr (drD o), .fr (offD o), .fr (lD (lonC o o.cls ++ lonT o o.ths)), x6, x7, x8, x9, x10, x11] s := by
  obtain ⟨h1, h2⟩ := lonS_ok k
  have al := alike_ok (B := B) 6 _ _ s (al_strs (n := 4) h1 (by omega))
  have hlen : (lonC o o.cls ++ lonT o o.ths).length < 64 := by
    rw [← (sortS_perm _).length_eq, lon_eq k]
    omega
  have hs := f_sortL (B := B) hlen
  rw [lon_eq k] at hs
  refine ev_iteF ?_
  simp only [z_tnot, z_ofE, z_call, z_blt, z_evs, z_evs0, z_var, List.getElem?_cons_succ, List.getElem?_cons_zero, z_get, z_bind, lonely k, lD, hs, z_opt, al, z_tst, z_bindB, Bool.not_true]
end
def tnB (B : Bs) : XS B := (.seq (.set 3 (.call 3 (g__law_drawn B) [(.var B 1), (.int B 5), (.int B 5)] rfl)) (.seq (.asgE 4 5 6 (.call 1 (g__law_office B) [(.var B 3)] rfl) (.ofN (.lst []))) (.seq (.for (.wk (.ix [] (.var B 3) (.int B 2))) (.name B 7) (putB B)) (.seq (.for (.wk (.ix [] (.var B 3) (.int B 2))) (.name B 7) (c4 B)) (.seq (.for (.wk (.ix [] (.var B 3) (.int B 1))) (.name B 11) (c5 B)) (c6 B))))))
theorem law_eq (B : Bs) : p_law B = .seq (.for (.range1 (.int B 4)) (.name B 2) (tnB B)) (.ret (.bl B true)) := rfl
section
variable {B : Bs} {s : HS} {a0 a2 : Sl}
theorem turn_ok (x3 x4 x5 x6 x7 x8 x9 x10 x11 : Sl) (hs : s.cells.length ≤ 63) : ∃ y3 y4 y5 y6 y7 y8 y9 y10 y11 s', (tnB B).ev [a0, .fr .hnd, a2, x3, x4, x5, x6, x7, x8, x9, x10, x11] s = .nxt [a0, .fr .hnd, a2, y3, y4, y5, y6, y7, y8, y9, y10, y11] s' ∧ s'.cells.length = s.cells.length := by
  obtain ⟨o, s', e1, h, c⟩ := drawn_ok (B := B) (s := s) (nT := 5) (nC := 5) (by decide) (by decide) (by decide) (by decide) hs
  have k := h.ok
  have lc := k.lc
  have lt := k.lt
  have e2 := law_office (B := B) (s := s') h
  obtain ⟨p7, e3⟩ := put_ok (B := B) (s := s') (a0 := a0) (a2 := a2) h o.cls [] x7 x8 x9 x10 x11 rfl
  obtain ⟨q6, q7, q8, q9, q10, h6, e4⟩ := s4 (B := B) (s := s') (a0 := a0) (a2 := a2) (x11 := x11) k o.cls [] (.dco ((oc o).map (encK lD))) p7 x8 x9 x10 (.inl rfl) (fun _ z => z) (by simp; omega)
  rw [List.nil_append] at e4
  have hlon : (lonC o o.cls).length ≤ 20 := by
    unfold lonC
    rw [List.length_map]
    have := List.length_filter_le (fun p : Str × Cl => decide (candC o p.2 = [])) o.cls
    omega
  obtain ⟨r7, r8, r9, r10, r11, e5⟩ := s5 (B := B) (s := s') (a0 := a0) (a2 := a2) k o.ths (lonC o o.cls) q6 q7 q8 q9 q10 x11 h6 (fun _ z => z) (by omega)
  have e6 := s6 (B := B) (s := s') (a0 := a0) (a2 := a2) (o := o) (x6 := q6) (x7 := r7) (x8 := r8) (x9 := r9) (x10 := r10) (x11 := r11) k
  refine ⟨.fr (drD o), .fr (offD o), .fr (lD (lonC o o.cls ++ lonT o o.ths)), q6, r7, r8, r9, r10, r11, s', ?_, c⟩
  unfold tnB
  refine (ev_seq (Γ1 := [a0, .fr .hnd, a2, .fr (drD o), x4, x5, x6, x7, x8, x9, x10, x11]) (s1 := s') ?_).trans ?_
  · exact (ev_set (ev_call3 (d := .hnd) (e := .int 5) (f := .int 5) (s1 := s) (s2 := s) (s3 := s) rfl rfl rfl e1)).trans rfl
  refine (ev_seq (Γ1 := [a0, .fr .hnd, a2, .fr (drD o), .fr (offD o), .fr (lD []), .dco [], x7, x8, x9, x10, x11]) (s1 := s') ?_).trans ?_
  · have hcall : (XE.call 1 (g__law_office B) [(.var B 3)] rfl).ev [a0, .fr .hnd, a2, .fr (drD o), x4, x5, x6, x7, x8, x9, x10, x11] s' = .ret (offD o) s' := ev_call1 (d := drD o) (s1 := s') rfl e2
    unfold XS.asgE
    dsimp only
    rw [hcall, z_out]
    rfl
  refine (ev_seq (s1 := s') ((ev_for (s1 := s') (ds := o.cls.map fun q => D.str q.1) ?_).trans e3)).trans ?_
  · simp [walk_dcls]
  refine (ev_seq (s1 := s') ((ev_for (s1 := s') (ds := o.cls.map fun q => D.str q.1) ?_).trans e4)).trans ?_
  · simp [walk_dcls]
  refine (ev_seq (s1 := s') ((ev_for (s1 := s') (ds := o.ths.map fun q => D.str q.1) ?_).trans e5)).trans e6
  simp [walk_dths]
theorem turns_ok : ∀ (ds : List D) (x2 x3 x4 x5 x6 x7 x8 x9 x10 x11 : Sl) (s : HS), s.cells.length ≤ 63 → ∃ Γ' s', forL (XG.name B 2) (tnB B).ev ds [a0, .fr .hnd, x2, x3, x4, x5, x6, x7, x8, x9, x10, x11] s = .nxt Γ' s'
  | [], x2, x3, x4, x5, x6, x7, x8, x9, x10, x11, s, _ => ⟨_, s, rfl⟩
  | d :: ds, x2, x3, x4, x5, x6, x7, x8, x9, x10, x11, s, hs => by
    obtain ⟨y3, y4, y5, y6, y7, y8, y9, y10, y11, s', e, c⟩ := turn_ok (B := B) (s := s) (a0 := a0) (a2 := .fr d) x3 x4 x5 x6 x7 x8 x9 x10 x11 hs
    obtain ⟨Γ', s2, e2⟩ := turns_ok ds (.fr d) y3 y4 y5 y6 y7 y8 y9 y10 y11 s' (by rw [c]; exact hs)
    exact ⟨Γ', s2, (for_cons (l := [(2, d)]) rfl e).trans e2⟩
end
theorem hev (B : Bs) (ns : List Int) (hn : ns.length ≤ 63) : ∃ s, (p_law B).ev ((Sl.fr (.rol ns) :: List.replicate 11 Sl.no).set 1 (.fr .hnd)) ⟨mixF ns 6, ns, 0⟩ = .ret (.bl true) s := by
  obtain ⟨Γ', s2, e⟩ := turns_ok (B := B) (a0 := .fr (.rol ns)) (rangeD 0 4) .no .no .no .no .no .no .no .no .no .no ⟨mixF ns 6, ns, 0⟩ hn
  refine ⟨s2, ?_⟩
  rw [law_eq]
  have e1 : (XS.for (.range1 (.int B 4)) (.name B 2) (tnB B)).ev [.fr (.rol ns), .fr .hnd, .no, .no, .no, .no, .no, .no, .no, .no, .no, .no] ⟨mixF ns 6, ns, 0⟩ = .nxt Γ' s2 := by
    rw [ev_for (ds := rangeD 0 4) (ev_range1 (k := 4) rfl (by decide))]
    exact e
  refine (ev_seq (a := XS.for (.range1 (.int B 4)) (.name B 2) (tnB B)) e1).trans ?_
  exact rfl
end K6

set_option Elab.async false
set_option linter.all false
set_option maxRecDepth 100000
namespace K6
open PySem PySem.Spec PyProof.Rows L2 Evl Dv Lo
theorem walk {l : PySem.W.OpenLaw} {q : Program} {loose : List Str} {XP : (Str → Option Value) → Heap → Prop} {YP : World → Heap → Prop} {d : DefRec} {K : Params → PySem.W.Frag} (hn : l.most = some 63) (hdf : d.params.defaults = [])
    (hY : ∀ (w : World) (h : Heap), YP w h → (K w.params).In h)
    (F : ∀ (w : World) (mg : Str → Option Value) (fa : Addr) (h : Heap), (K w.params).In h → h.Ns mainGlobals mg → mg d.name = some (.ref fa) →
      ∃ fd : FuncData, (∀ (s : Shared) (u : Value), BindsTo s fd ⟨[u], []⟩ [("_law_script", u)]) ∧ ∀ base : Heap, (K w.params).In base → base.Ns mainGlobals mg → FnOk l.prog w (K w.params) mg base (L2.CX l.prog w) 10 fa fd ["_law_script"] (spLaw (K w.params))) :
    PySem.W.WalkO q loose XP YP l.row.toRowW d [] (fun f vs => PySem.call f vs) :=
  L2.walk_of (n := 63) (k := 10) (x := "_law_script") (CX := fun w => L2.CX l.prog w) (sp := fun w => spLaw (K w.params)) hn (by decide) hdf ⟨rfl, by decide, by decide⟩ hY F (fun _ _ a ns hl _ hS => ⟨a, ns, rfl, hS, hl, fun _ => rfl⟩) fun _ _ _ _ _ z => CXnever z
end K6
open PySem PySem.W PyProof.Rows
set_option maxRecDepth 100000 in
set_option maxHeartbeats 0 in
theorem PySem.Challenge.cw_lostdesk_k06_candidates_and_rivals_holds : PySem.Challenge.rw_lostdesk_k06_candidates_and_rivals.Holds := by
  w_on; o_law; k_head; (case hw => w_witness2)
  k_fill
  refine K6.walk (l := PySem.Challenge.rw_lostdesk_k06_candidates_and_rivals) rfl rfl (fun w h Y => PySem.W.kIn_of Y) ?F
  case F =>
    intro w mg fa h KX G hmg
    refine' K6.all_mk K6.hev KX G hmg ?y_Catalog ?y_Note ?y_Thing ?y_Claim ?y_Office ?y_InvalidCatalog ?y_InvalidEntry ?y_InvalidNote ?y_InvalidOffice ?y_UnknownLabel ?y_UnknownFeature ?y__law_next ?l__law_next ?c__law_next ?kp__law_next ?y__law_features ?l__law_features ?c__law_features ?kp__law_features ?y__law_some ?l__law_some ?c__law_some ?kp__law_some ?y__law_sets ?l__law_sets ?c__law_sets ?kp__law_sets ?y__law_drawn ?l__law_drawn ?c__law_drawn ?kp__law_drawn ?y_is_word ?l_is_word ?c_is_word ?kp_is_word ?y_ascends ?l_ascends ?c_ascends ?kp_ascends ?y_is_feature ?l_is_feature ?c_is_feature ?kp_is_feature ?y_in_range ?l_in_range ?c_in_range ?kp_in_range ?y_is_choice ?l_is_choice ?c_is_choice ?kp_is_choice ?y__law_note ?l__law_note ?c__law_note ?kp__law_note ?y_check_entries ?l_check_entries ?c_check_entries ?kp_check_entries ?y_in_order ?l_in_order ?c_in_order ?kp_in_order ?y__law_office ?l__law_office ?c__law_office ?kp__law_office ?y__law_apart ?l__law_apart ?c__law_apart ?kp__law_apart ?y__law_can ?l__law_can ?c__law_can ?kp__law_can ?y__law_alike ?l__law_alike ?c__law_alike ?kp__law_alike ?y_claim_of ?l_claim_of ?c_claim_of ?kp_claim_of ?y_thing_of ?l_thing_of ?c_thing_of ?kp_thing_of ?y_common_values ?l_common_values ?c_common_values ?kp_common_values ?y_misfits ?l_misfits ?c_misfits ?kp_misfits ?y_fits ?l_fits ?c_fits ?kp_fits ?y_candidates ?l_candidates ?c_candidates ?kp_candidates ?y_rivals ?l_rivals ?c_rivals ?kp_rivals ?y_lonely ?l_lonely ?c_lonely ?kp_lonely ?y__law_mix ?l__law_mix ?c__law_mix ?kp__law_mix ?y_law ?l_law ?c_law ?kp_law ?y_Catalog__init__ ?l_Catalog__init__ ?c_Catalog__init__ ?kp_Catalog__init__ ?f_Catalog__init__ ?fi_Catalog__init__ ?y_Thing__init__ ?l_Thing__init__ ?c_Thing__init__ ?kp_Thing__init__ ?f_Thing__init__ ?fi_Thing__init__ ?y_Catalog__contains__ ?l_Catalog__contains__ ?c_Catalog__contains__ ?kp_Catalog__contains__ ?f_Catalog__contains__ ?fi_Catalog__contains__ ?y_Note__init__ ?l_Note__init__ ?c_Note__init__ ?kp_Note__init__ ?f_Note__init__ ?fi_Note__init__ ?y_Claim__init__ ?l_Claim__init__ ?dl_Claim__init__ ?c_Claim__init__ ?kp_Claim__init__ ?f_Claim__init__ ?fi_Claim__init__ ?y_Catalog__eq__ ?l_Catalog__eq__ ?c_Catalog__eq__ ?kp_Catalog__eq__ ?f_Catalog__eq__ ?fi_Catalog__eq__ ?y_Office__init__ ?l_Office__init__ ?c_Office__init__ ?kp_Office__init__ ?f_Office__init__ ?fi_Office__init__ ?y_Note__getitem__ ?l_Note__getitem__ ?c_Note__getitem__ ?kp_Note__getitem__ ?f_Note__getitem__ ?fi_Note__getitem__ ?p1_Catalog_features ?p2_Catalog_features ?p3_Catalog_features ?p4_Catalog_features ?l_Catalog_features ?c_Catalog_features ?kp_Catalog_features ?p1_Claim_note ?p2_Claim_note ?p3_Claim_note ?p4_Claim_note ?l_Claim_note ?c_Claim_note ?kp_Claim_note ?p1_Thing_note ?p2_Thing_note ?p3_Thing_note ?p4_Thing_note ?l_Thing_note ?c_Thing_note ?kp_Thing_note ?p1_Note_catalog ?p2_Note_catalog ?p3_Note_catalog ?p4_Note_catalog ?l_Note_catalog ?c_Note_catalog ?kp_Note_catalog ?p1_Office_claims ?p2_Office_claims ?p3_Office_claims ?p4_Office_claims ?l_Office_claims ?c_Office_claims ?kp_Office_claims ?p1_Office_things ?p2_Office_things ?p3_Office_things ?p4_Office_things ?l_Office_things ?c_Office_things ?kp_Office_things ?p1_Claim_day ?p2_Claim_day ?p3_Claim_day ?p4_Claim_day ?l_Claim_day ?c_Claim_day ?kp_Claim_day ?p1_Thing_day ?p2_Thing_day ?p3_Thing_day ?p4_Thing_day ?l_Thing_day ?c_Thing_day ?kp_Thing_day ?p1_Office_catalog ?p2_Office_catalog ?p3_Office_catalog ?p4_Office_catalog ?l_Office_catalog ?c_Office_catalog ?kp_Office_catalog ?p1_Catalog_names ?p2_Catalog_names ?p3_Catalog_names ?p4_Catalog_names ?l_Catalog_names ?c_Catalog_names ?kp_Catalog_names ?p1_Claim_slips ?p2_Claim_slips ?p3_Claim_slips ?p4_Claim_slips ?l_Claim_slips ?c_Claim_slips ?kp_Claim_slips ?pg_Catalog ?hd_Catalog ?po_Catalog ?sa_Catalog ?mk_Catalog ?kc_Catalog ?n0_Catalog ?n1_Catalog ?ne_Catalog ?mo_Catalog ?ha_Catalog ?ic_Catalog ?ty_Catalog ?pg_Note ?hd_Note ?po_Note ?sa_Note ?mk_Note ?kc_Note ?n0_Note ?n1_Note ?pg_Thing ?hd_Thing ?po_Thing ?sa_Thing ?mk_Thing ?kc_Thing ?n0_Thing ?n1_Thing ?pg_Claim ?hd_Claim ?po_Claim ?sa_Claim ?mk_Claim ?kc_Claim ?n0_Claim ?n1_Claim ?n2_Claim ?n3_Claim ?pg_Office ?hd_Office ?po_Office ?sa_Office ?mk_Office ?kc_Office ?n0_Office ?n1_Office ?n2_Office ?hn ?htk ?y_InvalidCatalog__init__ ?l_InvalidCatalog__init__ ?c_InvalidCatalog__init__ ?kp_InvalidCatalog__init__ ?f_InvalidCatalog__init__ ?xc_InvalidCatalog ?xr_InvalidCatalog ?xs_InvalidCatalog ?xe_InvalidCatalog ?xt_InvalidCatalog ?xk_InvalidCatalog ?xi_InvalidCatalog_index ?y_InvalidEntry__init__ ?l_InvalidEntry__init__ ?c_InvalidEntry__init__ ?kp_InvalidEntry__init__ ?f_InvalidEntry__init__ ?xc_InvalidEntry ?xr_InvalidEntry ?xs_InvalidEntry ?xe_InvalidEntry ?xt_InvalidEntry ?xk_InvalidEntry ?xi_InvalidEntry_part ?y_InvalidNote__init__ ?l_InvalidNote__init__ ?c_InvalidNote__init__ ?kp_InvalidNote__init__ ?f_InvalidNote__init__ ?xc_InvalidNote ?xr_InvalidNote ?xs_InvalidNote ?xe_InvalidNote ?xt_InvalidNote ?xk_InvalidNote ?xi_InvalidNote_feature ?y_InvalidOffice__init__ ?l_InvalidOffice__init__ ?c_InvalidOffice__init__ ?kp_InvalidOffice__init__ ?f_InvalidOffice__init__ ?xc_InvalidOffice ?xr_InvalidOffice ?xs_InvalidOffice ?xe_InvalidOffice ?xt_InvalidOffice ?xk_InvalidOffice ?xi_InvalidOffice_part ?xi_InvalidOffice_label ?ux_UnknownLabel ?uk_UnknownLabel ?xe_UnknownLabel ?xt_UnknownLabel ?ux_UnknownFeature ?uk_UnknownFeature ?xe_UnknownFeature ?xt_UnknownFeature ?z_all ?z_any ?z_bool ?z_dict ?z_enumerate ?z_int ?z_isinstance ?z_len ?z_list ?z_max ?z_range ?z_sorted ?z_str ?z_tuple ?z_zip ?v_MOST_FEATURES ?v_FEWEST_VALUES ?v_MOST_VALUES ?v_MOST_LETTERS ?v_LAST_DAY ?v_MOST_SLIPS ?v_MOST_WORTH ?v_MOST_ENTRIES
    (case y_Catalog => k_is)
    (case y_Note => k_is)
    (case y_Thing => k_is)
    (case y_Claim => k_is)
    (case y_Office => k_is)
    (case y_InvalidCatalog => k_is)
    (case y_InvalidEntry => k_is)
    (case y_InvalidNote => k_is)
    (case y_InvalidOffice => k_is)
    (case y_UnknownLabel => k_is)
    (case y_UnknownFeature => k_is)
    (case y__law_next => k_is)
    (case l__law_next => k_is)
    (case c__law_next => k_is)
    (case kp__law_next => k_is)
    (case y__law_features => k_is)
    (case l__law_features => k_is)
    (case c__law_features => k_is)
    (case kp__law_features => k_is)
    (case y__law_some => k_is)
    (case l__law_some => k_is)
    (case c__law_some => k_is)
    (case kp__law_some => k_is)
    (case y__law_sets => k_is)
    (case l__law_sets => k_is)
    (case c__law_sets => k_is)
    (case kp__law_sets => k_is)
    (case y__law_drawn => k_is)
    (case l__law_drawn => k_is)
    (case c__law_drawn => k_is)
    (case kp__law_drawn => k_is)
    (case y_is_word => k_is)
    (case l_is_word => k_is)
    (case c_is_word => k_is)
    (case kp_is_word => k_is)
    (case y_ascends => k_is)
    (case l_ascends => k_is)
    (case c_ascends => k_is)
    (case kp_ascends => k_is)
    (case y_is_feature => k_is)
    (case l_is_feature => k_is)
    (case c_is_feature => k_is)
    (case kp_is_feature => k_is)
    (case y_in_range => k_is)
    (case l_in_range => k_is)
    (case c_in_range => k_is)
    (case kp_in_range => k_is)
    (case y_is_choice => k_is)
    (case l_is_choice => k_is)
    (case c_is_choice => k_is)
    (case kp_is_choice => k_is)
    (case y__law_note => k_is)
    (case l__law_note => k_is)
    (case c__law_note => k_is)
    (case kp__law_note => k_is)
    (case y_check_entries => k_is)
    (case l_check_entries => k_is)
    (case c_check_entries => k_is)
    (case kp_check_entries => k_is)
    (case y_in_order => k_is)
    (case l_in_order => k_is)
    (case c_in_order => k_is)
    (case kp_in_order => k_is)
    (case y__law_office => k_is)
    (case l__law_office => k_is)
    (case c__law_office => k_is)
    (case kp__law_office => k_is)
    (case y__law_apart => k_is)
    (case l__law_apart => k_is)
    (case c__law_apart => k_is)
    (case kp__law_apart => k_is)
    (case y__law_can => k_is)
    (case l__law_can => k_is)
    (case c__law_can => k_is)
    (case kp__law_can => k_is)
    (case y__law_alike => k_is)
    (case l__law_alike => k_is)
    (case c__law_alike => k_is)
    (case kp__law_alike => k_is)
    (case y_claim_of => k_is)
    (case l_claim_of => k_is)
    (case c_claim_of => k_is)
    (case kp_claim_of => k_is)
    (case y_thing_of => k_is)
    (case l_thing_of => k_is)
    (case c_thing_of => k_is)
    (case kp_thing_of => k_is)
    (case y_common_values => k_is)
    (case l_common_values => k_is)
    (case c_common_values => k_is)
    (case kp_common_values => k_is)
    (case y_misfits => k_is)
    (case l_misfits => k_is)
    (case c_misfits => k_is)
    (case kp_misfits => k_is)
    (case y_fits => k_is)
    (case l_fits => k_is)
    (case c_fits => k_is)
    (case kp_fits => k_is)
    (case y_candidates => k_is)
    (case l_candidates => k_is)
    (case c_candidates => k_is)
    (case kp_candidates => k_is)
    (case y_rivals => k_is)
    (case l_rivals => k_is)
    (case c_rivals => k_is)
    (case kp_rivals => k_is)
    (case y_lonely => k_is)
    (case l_lonely => k_is)
    (case c_lonely => k_is)
    (case kp_lonely => k_is)
    (case y__law_mix => k_is)
    (case l__law_mix => k_is)
    (case c__law_mix => k_is)
    (case kp__law_mix => k_is)
    (case y_law => k_is)
    (case l_law => k_is)
    (case c_law => k_is)
    (case kp_law => k_is)
    (case y_Catalog__init__ => k_is)
    (case l_Catalog__init__ => k_is)
    (case c_Catalog__init__ => k_is)
    (case kp_Catalog__init__ => k_is)
    (case f_Catalog__init__ => k_is)
    (case fi_Catalog__init__ => k_is)
    (case y_Thing__init__ => k_is)
    (case l_Thing__init__ => k_is)
    (case c_Thing__init__ => k_is)
    (case kp_Thing__init__ => k_is)
    (case f_Thing__init__ => k_is)
    (case fi_Thing__init__ => k_is)
    (case y_Catalog__contains__ => k_is)
    (case l_Catalog__contains__ => k_is)
    (case c_Catalog__contains__ => k_is)
    (case kp_Catalog__contains__ => k_is)
    (case f_Catalog__contains__ => k_is)
    (case fi_Catalog__contains__ => k_is)
    (case y_Note__init__ => k_is)
    (case l_Note__init__ => k_is)
    (case c_Note__init__ => k_is)
    (case kp_Note__init__ => k_is)
    (case f_Note__init__ => k_is)
    (case fi_Note__init__ => k_is)
    (case y_Claim__init__ => k_is)
    (case l_Claim__init__ => k_is)
    (case dl_Claim__init__ => k_is)
    (case c_Claim__init__ => k_is)
    (case kp_Claim__init__ => k_is)
    (case f_Claim__init__ => k_is)
    (case fi_Claim__init__ => k_is)
    (case y_Catalog__eq__ => k_is)
    (case l_Catalog__eq__ => k_is)
    (case c_Catalog__eq__ => k_is)
    (case kp_Catalog__eq__ => k_is)
    (case f_Catalog__eq__ => k_is)
    (case fi_Catalog__eq__ => k_is)
    (case y_Office__init__ => k_is)
    (case l_Office__init__ => k_is)
    (case c_Office__init__ => k_is)
    (case kp_Office__init__ => k_is)
    (case f_Office__init__ => k_is)
    (case fi_Office__init__ => k_is)
    (case y_Note__getitem__ => k_is)
    (case l_Note__getitem__ => k_is)
    (case c_Note__getitem__ => k_is)
    (case kp_Note__getitem__ => k_is)
    (case f_Note__getitem__ => k_is)
    (case fi_Note__getitem__ => k_is)
    (case p1_Catalog_features => k_is)
    (case p2_Catalog_features => k_is)
    (case p3_Catalog_features => k_is)
    (case p4_Catalog_features => k_is)
    (case l_Catalog_features => k_is)
    (case c_Catalog_features => k_is)
    (case kp_Catalog_features => k_is)
    (case p1_Claim_note => k_is)
    (case p2_Claim_note => k_is)
    (case p3_Claim_note => k_is)
    (case p4_Claim_note => k_is)
    (case l_Claim_note => k_is)
    (case c_Claim_note => k_is)
    (case kp_Claim_note => k_is)
    (case p1_Thing_note => k_is)
    (case p2_Thing_note => k_is)
    (case p3_Thing_note => k_is)
    (case p4_Thing_note => k_is)
    (case l_Thing_note => k_is)
    (case c_Thing_note => k_is)
    (case kp_Thing_note => k_is)
    (case p1_Note_catalog => k_is)
    (case p2_Note_catalog => k_is)
    (case p3_Note_catalog => k_is)
    (case p4_Note_catalog => k_is)
    (case l_Note_catalog => k_is)
    (case c_Note_catalog => k_is)
    (case kp_Note_catalog => k_is)
    (case p1_Office_claims => k_is)
    (case p2_Office_claims => k_is)
    (case p3_Office_claims => k_is)
    (case p4_Office_claims => k_is)
    (case l_Office_claims => k_is)
    (case c_Office_claims => k_is)
    (case kp_Office_claims => k_is)
    (case p1_Office_things => k_is)
    (case p2_Office_things => k_is)
    (case p3_Office_things => k_is)
    (case p4_Office_things => k_is)
    (case l_Office_things => k_is)
    (case c_Office_things => k_is)
    (case kp_Office_things => k_is)
    (case p1_Claim_day => k_is)
    (case p2_Claim_day => k_is)
    (case p3_Claim_day => k_is)
    (case p4_Claim_day => k_is)
    (case l_Claim_day => k_is)
    (case c_Claim_day => k_is)
    (case kp_Claim_day => k_is)
    (case p1_Thing_day => k_is)
    (case p2_Thing_day => k_is)
    (case p3_Thing_day => k_is)
    (case p4_Thing_day => k_is)
    (case l_Thing_day => k_is)
    (case c_Thing_day => k_is)
    (case kp_Thing_day => k_is)
    (case p1_Office_catalog => k_is)
    (case p2_Office_catalog => k_is)
    (case p3_Office_catalog => k_is)
    (case p4_Office_catalog => k_is)
    (case l_Office_catalog => k_is)
    (case c_Office_catalog => k_is)
    (case kp_Office_catalog => k_is)
    (case p1_Catalog_names => k_is)
    (case p2_Catalog_names => k_is)
    (case p3_Catalog_names => k_is)
    (case p4_Catalog_names => k_is)
    (case l_Catalog_names => k_is)
    (case c_Catalog_names => k_is)
    (case kp_Catalog_names => k_is)
    (case p1_Claim_slips => k_is)
    (case p2_Claim_slips => k_is)
    (case p3_Claim_slips => k_is)
    (case p4_Claim_slips => k_is)
    (case l_Claim_slips => k_is)
    (case c_Claim_slips => k_is)
    (case kp_Claim_slips => k_is)
    (case pg_Catalog => k_is)
    (case hd_Catalog => k_is)
    (case po_Catalog => k_is)
    (case sa_Catalog => k_is)
    (case mk_Catalog => k_is)
    (case kc_Catalog => k_is)
    (case n0_Catalog => k_is)
    (case n1_Catalog => k_is)
    (case ne_Catalog => k_is)
    (case mo_Catalog => k_is)
    (case ha_Catalog => k_is)
    (case ic_Catalog => first | rfl | k_is)
    (case ty_Catalog => k_is)
    (case pg_Note => k_is)
    (case hd_Note => k_is)
    (case po_Note => k_is)
    (case sa_Note => k_is)
    (case mk_Note => k_is)
    (case kc_Note => k_is)
    (case n0_Note => k_is)
    (case n1_Note => k_is)
    (case pg_Thing => k_is)
    (case hd_Thing => k_is)
    (case po_Thing => k_is)
    (case sa_Thing => k_is)
    (case mk_Thing => k_is)
    (case kc_Thing => k_is)
    (case n0_Thing => k_is)
    (case n1_Thing => k_is)
    (case pg_Claim => k_is)
    (case hd_Claim => k_is)
    (case po_Claim => k_is)
    (case sa_Claim => k_is)
    (case mk_Claim => k_is)
    (case kc_Claim => k_is)
    (case n0_Claim => k_is)
    (case n1_Claim => k_is)
    (case n2_Claim => k_is)
    (case n3_Claim => k_is)
    (case pg_Office => k_is)
    (case hd_Office => k_is)
    (case po_Office => k_is)
    (case sa_Office => k_is)
    (case mk_Office => k_is)
    (case kc_Office => k_is)
    (case n0_Office => k_is)
    (case n1_Office => k_is)
    (case n2_Office => k_is)
    (case hn => k_is)
    (case htk => k_is)
    (case y_InvalidCatalog__init__ => k_is)
    (case l_InvalidCatalog__init__ => k_is)
    (case c_InvalidCatalog__init__ => k_is)
    (case kp_InvalidCatalog__init__ => k_is)
    (case f_InvalidCatalog__init__ => k_is)
    (case xc_InvalidCatalog => k_is)
    (case xr_InvalidCatalog => first | rfl | decide +kernel)
    (case xs_InvalidCatalog => k_is)
    (case xe_InvalidCatalog => k_is)
    (case xt_InvalidCatalog => k_is)
    (case xk_InvalidCatalog => k_is)
    (case xi_InvalidCatalog_index => k_is)
    (case y_InvalidEntry__init__ => k_is)
    (case l_InvalidEntry__init__ => k_is)
    (case c_InvalidEntry__init__ => k_is)
    (case kp_InvalidEntry__init__ => k_is)
    (case f_InvalidEntry__init__ => k_is)
    (case xc_InvalidEntry => k_is)
    (case xr_InvalidEntry => first | rfl | decide +kernel)
    (case xs_InvalidEntry => k_is)
    (case xe_InvalidEntry => k_is)
    (case xt_InvalidEntry => k_is)
    (case xk_InvalidEntry => k_is)
    (case xi_InvalidEntry_part => k_is)
    (case y_InvalidNote__init__ => k_is)
    (case l_InvalidNote__init__ => k_is)
    (case c_InvalidNote__init__ => k_is)
    (case kp_InvalidNote__init__ => k_is)
    (case f_InvalidNote__init__ => k_is)
    (case xc_InvalidNote => k_is)
    (case xr_InvalidNote => first | rfl | decide +kernel)
    (case xs_InvalidNote => k_is)
    (case xe_InvalidNote => k_is)
    (case xt_InvalidNote => k_is)
    (case xk_InvalidNote => k_is)
    (case xi_InvalidNote_feature => k_is)
    (case y_InvalidOffice__init__ => k_is)
    (case l_InvalidOffice__init__ => k_is)
    (case c_InvalidOffice__init__ => k_is)
    (case kp_InvalidOffice__init__ => k_is)
    (case f_InvalidOffice__init__ => k_is)
    (case xc_InvalidOffice => k_is)
    (case xr_InvalidOffice => first | rfl | decide +kernel)
    (case xs_InvalidOffice => k_is)
    (case xe_InvalidOffice => k_is)
    (case xt_InvalidOffice => k_is)
    (case xk_InvalidOffice => k_is)
    (case xi_InvalidOffice_part => k_is)
    (case xi_InvalidOffice_label => k_is)
    (case ux_UnknownLabel => k_exc)
    (case uk_UnknownLabel => k_is)
    (case xe_UnknownLabel => k_is)
    (case xt_UnknownLabel => k_is)
    (case ux_UnknownFeature => k_exc)
    (case uk_UnknownFeature => k_is)
    (case xe_UnknownFeature => k_is)
    (case xt_UnknownFeature => k_is)
    (case z_all => k_is)
    (case z_any => k_is)
    (case z_bool => k_is)
    (case z_dict => k_is)
    (case z_enumerate => k_is)
    (case z_int => k_is)
    (case z_isinstance => k_is)
    (case z_len => k_is)
    (case z_list => k_is)
    (case z_max => k_is)
    (case z_range => k_is)
    (case z_sorted => k_is)
    (case z_str => k_is)
    (case z_tuple => k_is)
    (case z_zip => k_is)
    (case v_MOST_FEATURES => k_is)
    (case v_FEWEST_VALUES => k_is)
    (case v_MOST_VALUES => k_is)
    (case v_MOST_LETTERS => k_is)
    (case v_LAST_DAY => k_is)
    (case v_MOST_SLIPS => k_is)
    (case v_MOST_WORTH => k_is)
    (case v_MOST_ENTRIES => k_is)

