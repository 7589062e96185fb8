import PyProof.Rows.All
import Wide.All
import OpenK.AllK
import Wide.FinOn
import HandS.ForMost
import HandS.Conv
import HandS.IsInst
import HandS.TupAny
import HandS.WideBits
import HandS.Rev
import HandS.Style
import HandS.Flow
import HandS.Evl
import HandS.Codes
import HandS.ForExc
import HandS.ExcIs
import HandS.OwnEq
import PyProof.InstNe
import KE.KUnpackStar
import KE.DatumOrd
import HandS.Gcd
import HandS.Iter
import HandS.More
import HandS.Wide
import HandS.StrMore
import KE.KDictWalk
import KE.KExcSuper
import HandS.ExcSuper
import HandS.ExcField
import HandS.FStr
import HandS.ExcCtx
import HandS.HotCalls
import PyProof.StrOps2
import KE.DataFind
import HandS.DictComp
import HandS.TupLen
import HandS.TupSets
import HandS.SetBool
import HandS.SetTxt0
import HandS.Star
import HandS.RevRange
import HandS.TryOnly
import HandS.SetKeys
import KE.GoesEnum
import PySem.Challenge.RW_translatory_k09_string_systems
import HandS.Head0
import HandS.Head1
import HandS.Head2
import HandS.HeadHook1
import HandS.HeadHook2
import HandS.HeadEnd
import HandS.Head3
set_option Elab.async false
set_option linter.all false
set_option maxRecDepth 100000
set_option maxHeartbeats 2000000
namespace Ly
open PySem L2

/-! ## data -/
inductive Dat where
  | non | bl (b : Bool) | int (i : Int) | str (x : Str) | adr (a : Addr) | tup (xs : List Dat) | lst (xs : List Dat) | obj (C : Addr) (fs : List (Str × Dat)) | dct (es : List (List Key × Dat)) | dcs (es : List (Key × Dat))

mutual
inductive Rep (K : PySem.W.Frag) (G : Hp) : V → Dat → Prop
  | non : Rep K G .non .non
  | bl (b : Bool) : Rep K G (.bl b) (.bl b)
  | int (i : Int) : Rep K G (.int i) (.int i)
  | str (x : Str) : Rep K G (.str x) (.str x)
  | adr (a : Addr) : Rep K G (.ref a) (.adr a)
  | tup {a : Addr} {xs : List V} {ds : List Dat} : SqT K G a xs → Reps K G xs ds → Rep K G (.ref a) (.tup ds)
  | lst {a : Addr} {xs : List V} {ds : List Dat} : SqL K G a xs → Reps K G xs ds → Rep K G (.ref a) (.lst ds)
  | dct {a : Addr} {vs : List (List Key × V)} {es : List (List Key × Dat)} : G a = some (.dT vs) → Dcts K G vs es → Rep K G (.ref a) (.dct es)
  | dcs {a : Addr} {vs : List (Key × V)} {es : List (Key × Dat)} : G a = some (.dK vs) → Dcks K G vs es → Rep K G (.ref a) (.dcs es)
  | obj {a C dx : Addr} {vs : List (Str × V)} {fs : List (Str × Dat)} : G a = some (.ins C dx vs) → Flds K G vs fs → Rep K G (.ref a) (.obj C fs)
inductive Reps (K : PySem.W.Frag) (G : Hp) : List V → List Dat → Prop
  | nil : Reps K G [] []
  | cons {v : V} {vs : List V} {d : Dat} {ds : List Dat} : Rep K G v d → Reps K G vs ds → Reps K G (v :: vs) (d :: ds)
inductive Flds (K : PySem.W.Frag) (G : Hp) : List (Str × V) → List (Str × Dat) → Prop
  | nil : Flds K G [] []
  | cons {f : Str} {v : V} {vs : List (Str × V)} {d : Dat} {ds : List (Str × Dat)} : Rep K G v d → Flds K G vs ds → Flds K G ((f, v) :: vs) ((f, d) :: ds)
/-- a dict with tuples of scalars as keys -/
inductive Dcts (K : PySem.W.Frag) (G : Hp) : List (List Key × V) → List (List Key × Dat) → Prop
  | nil : Dcts K G [] []
  | cons {k : List Key} {v : V} {vs : List (List Key × V)} {d : Dat} {ds : List (List Key × Dat)} : Rep K G v d → Dcts K G vs ds → Dcts K G ((k, v) :: vs) ((k, d) :: ds)
/-- a dict with ints and texts as keys -/
inductive Dcks (K : PySem.W.Frag) (G : Hp) : List (Key × V) → List (Key × Dat) → Prop
  | nil : Dcks K G [] []
  | cons {k : Key} {v : V} {vs : List (Key × V)} {d : Dat} {ds : List (Key × Dat)} : Rep K G v d → Dcks K G vs ds → Dcks K G ((k, v) :: vs) ((k, d) :: ds)
end

def Ex (H H' : Hp) : Prop := ∀ a o, H a = some o → H' a = some o
theorem Ex.refl (H : Hp) : Ex H H := fun _ _ h => h
theorem Ex.trans {H H1 H2 : Hp} (a : Ex H H1) (b : Ex H1 H2) : Ex H H2 := fun x o h => b x o (a x o h)
theorem Ex.new {H : Hp} {p : Addr} {o : HO} (h : H p = none) : Ex H (upd H p o) := fun a u e => by
  rw [upd_ne (ne_of_none e h)]
  exact e
theorem ex_rd {H H' : Hp} {a : Addr} {u : HO} (e : Ex H H') (h : Rd H a u) : Rd H' a u := by
  rcases h with h | ⟨o, h⟩
  · exact Or.inl (e a _ h)
  · exact Or.inr ⟨o, e a _ h⟩
theorem ex_l {K : PySem.W.Frag} {H H' : Hp} {a : Addr} {xs : List V} (e : Ex H H') (h : SqL K H a xs) : SqL K H' a xs := by
  rcases h with h | h
  · exact Or.inl (ex_rd e h)
  · exact Or.inr h
theorem ex_t {K : PySem.W.Frag} {H H' : Hp} {a : Addr} {xs : List V} (e : Ex H H') (h : SqT K H a xs) : SqT K H' a xs := by
  rcases h with h | h
  · exact Or.inl (ex_rd e h)
  · exact Or.inr h
theorem l_of {K : PySem.W.Frag} {H : Hp} {a : Addr} {xs : List V} (h : H a = some (.lst xs)) : SqL K H a xs := Or.inl (Or.inl h)
theorem t_of {K : PySem.W.Frag} {H : Hp} {a : Addr} {xs : List V} (h : H a = some (.tup xs)) : SqT K H a xs := Or.inl (Or.inl h)

section
variable {K : PySem.W.Frag} {G G2 : Hp}
mutual
theorem Rep.mono (e : Ex G G2) : ∀ {v : V} {d : Dat}, Rep K G v d → Rep K G2 v d
  | _, _, .non => .non
  | _, _, .bl b => .bl b
  | _, _, .int i => .int i
  | _, _, .str x => .str x
  | _, _, .adr a => .adr a
  | _, _, .tup h r => .tup (ex_t e h) (Reps.mono e r)
  | _, _, .lst h r => .lst (ex_l e h) (Reps.mono e r)
  | _, _, .obj h r => .obj (e _ _ h) (Flds.mono e r)
  | _, _, .dct h r => .dct (e _ _ h) (Dcts.mono e r)
  | _, _, .dcs h r => .dcs (e _ _ h) (Dcks.mono e r)
theorem Reps.mono (e : Ex G G2) : ∀ {v : List V} {d : List Dat}, Reps K G v d → Reps K G2 v d
  | _, _, .nil => .nil
  | _, _, .cons h r => .cons (Rep.mono e h) (Reps.mono e r)
theorem Flds.mono (e : Ex G G2) : ∀ {v : List (Str × V)} {d : List (Str × Dat)}, Flds K G v d → Flds K G2 v d
  | _, _, .nil => .nil
  | _, _, .cons h r => .cons (Rep.mono e h) (Flds.mono e r)
theorem Dcts.mono (e : Ex G G2) : ∀ {v : List (List Key × V)} {d : List (List Key × Dat)}, Dcts K G v d → Dcts K G2 v d
  | _, _, .nil => .nil
  | _, _, .cons h r => .cons (Rep.mono e h) (Dcts.mono e r)
theorem Dcks.mono (e : Ex G G2) : ∀ {v : List (Key × V)} {d : List (Key × Dat)}, Dcks K G v d → Dcks K G2 v d
  | _, _, .nil => .nil
  | _, _, .cons h r => .cons (Rep.mono e h) (Dcks.mono e r)
end
end

section
variable {K : PySem.W.Frag} {G : Hp} {v : V} {xs ys : List V} {ds es : List Dat} {d : Dat}
theorem Rep.int_inv {i : Int} (h : Rep K G v (.int i)) : v = .int i := by cases h; rfl
theorem Rep.bl_inv {b : Bool} (h : Rep K G v (.bl b)) : v = .bl b := by cases h; rfl
theorem Rep.str_inv {x : Str} (h : Rep K G v (.str x)) : v = .str x := by cases h; rfl
theorem Rep.non_inv (h : Rep K G v .non) : v = .non := by cases h; rfl
theorem Rep.adr_inv {a : Addr} (h : Rep K G v (.adr a)) : v = .ref a := by cases h; rfl
theorem Rep.tup_inv (h : Rep K G v (.tup ds)) : ∃ a xs, v = .ref a ∧ SqT K G a xs ∧ Reps K G xs ds := by
  cases h with
  | tup h r => exact ⟨_, _, rfl, h, r⟩
theorem Rep.lst_inv (h : Rep K G v (.lst ds)) : ∃ a xs, v = .ref a ∧ SqL K G a xs ∧ Reps K G xs ds := by
  cases h with
  | lst h r => exact ⟨_, _, rfl, h, r⟩
theorem Reps.length : ∀ {xs : List V} {ds : List Dat}, Reps K G xs ds → xs.length = ds.length
  | _, _, .nil => rfl
  | _, _, .cons _ r => by rw [List.length_cons, List.length_cons, Reps.length r]
theorem Reps.get : ∀ {xs : List V} {ds : List Dat} {i : Nat} {d : Dat}, Reps K G xs ds → ds[i]? = some d → ∃ v, xs[i]? = some v ∧ Rep K G v d
  | _, _, _, _, .nil, h => by simp at h
  | _, _, 0, _, .cons h _, e => by
    simp at e
    subst e
    exact ⟨_, rfl, h⟩
  | _, _, i + 1, d, .cons _ r, e => by
    obtain ⟨v, h1, h2⟩ := Reps.get (i := i) (d := d) r (by simpa using e)
    exact ⟨v, by simpa using h1, h2⟩
theorem Reps.getV : ∀ {xs : List V} {ds : List Dat} {i : Nat} {v : V}, Reps K G xs ds → xs[i]? = some v → ∃ d, ds[i]? = some d ∧ Rep K G v d
  | _, _, _, _, .nil, h => by simp at h
  | _, _, 0, _, .cons h _, e => by
    simp at e
    subst e
    exact ⟨_, rfl, h⟩
  | _, _, i + 1, d, .cons _ r, e => by
    obtain ⟨v, h1, h2⟩ := Reps.getV (i := i) (v := d) r (by simpa using e)
    exact ⟨v, by simpa using h1, h2⟩
theorem Reps.append : ∀ {xs ys : List V} {ds es : List Dat}, Reps K G xs ds → Reps K G ys es → Reps K G (xs ++ ys) (ds ++ es)
  | _, _, _, _, .nil, s => s
  | _, _, _, _, .cons r t, s => .cons r (Reps.append t s)
theorem Reps.take : ∀ {xs : List V} {us : List Dat} (n : Nat), Reps K G xs us → Reps K G (xs.take n) (us.take n)
  | _, _, 0, _ => .nil
  | _, _, _ + 1, .nil => .nil
  | _, _, n + 1, .cons r t => .cons r (Reps.take n t)
theorem Reps.drop : ∀ {xs : List V} {us : List Dat} (n : Nat), Reps K G xs us → Reps K G (xs.drop n) (us.drop n)
  | _, _, 0, r => r
  | _, _, _ + 1, .nil => .nil
  | _, _, n + 1, .cons _ t => Reps.drop n t
theorem Reps.reverse : ∀ {xs : List V} {us : List Dat}, Reps K G xs us → Reps K G xs.reverse us.reverse
  | _, _, .nil => .nil
  | _, _, .cons r t => by
    rw [List.reverse_cons, List.reverse_cons]
    exact Reps.append (Reps.reverse t) (.cons r .nil)
theorem Reps.ints : ∀ {xs : List V} {ns : List Int}, Reps K G xs (ns.map Dat.int) → xs = ns.map V.int
  | _, [], h => by
    cases h
    rfl
  | _, n :: ns, h => by
    cases h with
    | cons h r =>
      cases h
      rw [Reps.ints (ns := ns) r]
      rfl
theorem Reps.of_ints : ∀ (ns : List Int), Reps K G (ns.map V.int) (ns.map Dat.int)
  | [] => .nil
  | n :: ns => .cons (.int n) (Reps.of_ints ns)
theorem Reps.set {v : V} {d : Dat} (h : Rep K G v d) : ∀ {xs : List V} {us : List Dat} (n : Nat), Reps K G xs us → Reps K G (xs.set n v) (us.set n d)
  | _, _, _, .nil => .nil
  | _, _, 0, .cons _ t => .cons h t
  | _, _, n + 1, .cons r t => .cons r (Reps.set h n t)
theorem Flds.get : ∀ {vs : List (Str × V)} {fs : List (Str × Dat)} {f : Str} {d : Dat}, Flds K G vs fs → fs.lookup f = some d → ∃ v, vs.lookup f = some v ∧ Rep K G v d
  | _, _, _, _, .nil, h => by simp at h
  | _, _, f, d, .cons (f := g) h r, e => by
    rw [List.lookup_cons] at e ⊢
    by_cases q : (f == g) = true
    · rw [q] at e ⊢
      simp at e
      subst e
      exact ⟨_, rfl, h⟩
    · have q : (f == g) = false := by simpa using q
      rw [q] at e ⊢
      exact Flds.get r e
end

/-! ## worlds -/
structure Wd where
  m : Addr → Prop
  I : Hp → Prop
  loc : ∀ {H H2 : Hp}, I H → (∀ a, m a → H2 a = H a) → I H2
  tr : ∀ {H : Hp} {a : Addr}, I H → m a → ∃ o, H a = some o
theorem Wd.st (W : Wd) {H H2 : Hp} (h : W.I H) (e : Ex H H2) : W.I H2 := W.loc h fun a ha => by
  obtain ⟨o, ho⟩ := W.tr h ha
  rw [ho]
  exact e a o ho
def Wd0 : Wd := ⟨fun _ => False, fun _ => True, fun _ _ => trivial, fun _ h => h.elim⟩
structure Ok (W : Wd) (G H : Hp) : Prop where
  ex : Ex G H
  inv : W.I H
  off : ∀ a, W.m a → G a = none
structure Stp (W : Wd) (G H G2 H2 : Hp) : Prop where
  gg : Ex G G2
  gh : Ex G2 H2
  hh : ∀ a o, ¬ W.m a → H a = some o → H2 a = some o
  nw : ∀ a o, G2 a = some o → G a = some o ∨ H a = none
  inv : W.I H2
section
variable {W : Wd} {G H G2 H2 G3 H3 : Hp}
theorem Stp.ok (k : Ok W G H) (s : Stp W G H G2 H2) : Ok W G2 H2 := ⟨s.gh, s.inv, fun a ha => by
  cases e : G2 a with
  | none => rfl
  | some o =>
    rcases s.nw a o e with h | h
    · rw [k.off a ha] at h
      cases h
    · obtain ⟨u, hu⟩ := W.tr k.inv ha
      rw [hu] at h
      cases h⟩
theorem Stp.refl (k : Ok W G H) : Stp W G H G H := ⟨Ex.refl _, k.ex, fun _ _ _ h => h, fun _ _ h => .inl h, k.inv⟩
theorem Stp.trans (s : Stp W G H G2 H2) (t : Stp W G2 H2 G3 H3) : Stp W G H G3 H3 := by
  refine ⟨s.gg.trans t.gg, t.gh, fun a o hm h => t.hh a o hm (s.hh a o hm h), fun a o h => ?_, t.inv⟩
  rcases t.nw a o h with h | h
  · exact s.nw a o h
  · right
    cases e : H a with
    | none => rfl
    | some u =>
      by_cases hm : W.m a
      · obtain ⟨z, hz⟩ := W.tr s.inv hm
        rw [hz] at h
        cases h
      · rw [s.hh a u hm e] at h
        cases h
/-- the heap alone grows -/
theorem Stp.grow (k : Ok W G H) (e : Ex H H2) : Stp W G H G H2 := ⟨Ex.refl _, k.ex.trans e, fun a o _ h => e a o h, fun _ _ h => .inl h, W.st k.inv e⟩
/-- a new object is known from now on -/
theorem Stp.new (k : Ok W G H) {p : Addr} {o : HO} (hp : H p = none) : Stp W G H (upd G p o) (upd H p o) := by
  have gp : G p = none := by
    cases e : G p with
    | none => rfl
    | some u =>
      rw [k.ex p u e] at hp
      cases hp
  refine ⟨Ex.new gp, fun a u h => ?_, fun a u _ h => Ex.new hp a u h, fun a u h => ?_, W.st k.inv (Ex.new hp)⟩
  · by_cases e : a = p
    · subst e
      rw [upd_same] at h ⊢
      exact h
    · rw [upd_ne e] at h ⊢
      exact k.ex a u h
  · by_cases e : a = p
    · subst e
      exact .inr hp
    · rw [upd_ne e] at h
      exact .inl h
theorem Ok.pure (k : Ok W G H) : Ok Wd0 G H := ⟨k.ex, trivial, fun _ h => h.elim⟩
theorem Stp.of0 (k : Ok W G H) (s : Stp Wd0 G H G2 H2) : Stp W G H G2 H2 := ⟨s.gg, s.gh, fun a o _ h => s.hh a o (fun z => z) h, s.nw, W.st k.inv fun a o h => s.hh a o (fun z => z) h⟩
theorem Stp.ex0 (s : Stp Wd0 G H G2 H2) : Ex H H2 := fun a o h => s.hh a o (fun z => z) h
end

/-! ## the slots by data -/
structure Env (K : PySem.W.Frag) (G : Hp) (σ : L2.St) (Γ : List (Option Dat)) : Prop where
  len : σ.length = Γ.length
  at' : ∀ (i : Nat) (d : Dat), Γ[i]? = some (some d) → ∃ v, σ[i]? = some (some v) ∧ Rep K G v d
section
variable {K : PySem.W.Frag} {G G2 : Hp} {σ : L2.St} {Γ Γ' : List (Option Dat)}
theorem Env.mono (e : Ex G G2) (h : Env K G σ Γ) : Env K G2 σ Γ := ⟨h.len, fun i d q => by
  obtain ⟨v, h1, h2⟩ := h.at' i d q
  exact ⟨v, h1, h2.mono e⟩⟩
theorem Env.set {i : Nat} {v : V} {d : Dat} (h : Env K G σ Γ) (r : Rep K G v d) : Env K G (σ.set i (some v)) (Γ.set i (some d)) := by
  refine ⟨by rw [List.length_set, List.length_set, h.len], fun j u q => ?_⟩
  by_cases hij : i = j
  · subst hij
    by_cases hl : i < Γ.length
    · rw [List.getElem?_set_self hl] at q
      have e : d = u := Option.some.inj (Option.some.inj q)
      subst e
      exact ⟨v, List.getElem?_set_self (by rw [h.len]; exact hl), r⟩
    · rw [List.getElem?_eq_none (by rw [List.length_set]; omega)] at q
      cases q
  · rw [List.getElem?_set_ne hij] at q ⊢
    exact h.at' j u q
inductive Wk : List (Option Dat) → List (Option Dat) → Prop
  | nil : Wk [] []
  | keep {a : Option Dat} {Γ Γ' : List (Option Dat)} : Wk Γ Γ' → Wk (a :: Γ) (a :: Γ')
  | drop {a : Option Dat} {Γ Γ' : List (Option Dat)} : Wk Γ Γ' → Wk (a :: Γ) (none :: Γ')
theorem Wk.refl : ∀ (Γ : List (Option Dat)), Wk Γ Γ
  | [] => .nil
  | _ :: Γ => .keep (Wk.refl Γ)
theorem Wk.length : ∀ {Γ Γ' : List (Option Dat)}, Wk Γ Γ' → Γ.length = Γ'.length
  | _, _, .nil => rfl
  | _, _, .keep h => by rw [List.length_cons, List.length_cons, Wk.length h]
  | _, _, .drop h => by rw [List.length_cons, List.length_cons, Wk.length h]
theorem Wk.get : ∀ {Γ Γ' : List (Option Dat)} {i : Nat} {d : Dat}, Wk Γ Γ' → Γ'[i]? = some (some d) → Γ[i]? = some (some d)
  | _, _, _, _, .nil, h => h
  | _, _, 0, _, .keep _, h => h
  | _, _, _ + 1, _, .keep w, h => by
    rw [List.getElem?_cons_succ] at h ⊢
    exact Wk.get w h
  | _, _, 0, _, .drop _, h => by
    simp at h
  | _, _, _ + 1, _, .drop w, h => by
    rw [List.getElem?_cons_succ] at h ⊢
    exact Wk.get w h
theorem Env.weak (w : Wk Γ Γ') (h : Env K G σ Γ) : Env K G σ Γ' := ⟨h.len.trans w.length, fun i d q => h.at' i d (w.get q)⟩
def wipeG (Γ : List (Option Dat)) : List Nat → List (Option Dat)
  | [] => Γ
  | v :: vs => (wipeG Γ vs).set v none
theorem Env.none {i : Nat} (h : Env K G σ Γ) : Env K G (σ.set i Option.none) (Γ.set i Option.none) := by
  refine ⟨by rw [List.length_set, List.length_set, h.len], fun j u q => ?_⟩
  by_cases hij : i = j
  · subst hij
    by_cases hl : i < Γ.length
    · rw [List.getElem?_set_self hl] at q
      cases q
    · rw [List.getElem?_eq_none (by rw [List.length_set]; omega)] at q
      cases q
  · rw [List.getElem?_set_ne hij] at q ⊢
    exact h.at' j u q
theorem Env.wipe (h : Env K G σ Γ) : ∀ vs : List Nat, Env K G (L2.wipe σ vs) (wipeG Γ vs)
  | [] => h
  | v :: vs => (Env.wipe h vs).none
theorem env_start {N : List Str} {vs : List V} {ds : List Dat} (r : Reps K G vs ds) : Env K G (L2.start N vs) (ds.map some ++ List.replicate (N.length - ds.length) Option.none) := by
  have hl := r.length
  refine ⟨by unfold L2.start; simp [hl], fun i d q => ?_⟩
  unfold L2.start
  by_cases hi : i < ds.length
  · rw [List.getElem?_append_left (by simpa using hi), List.getElem?_map] at q
    cases e : ds[i]? with
    | none =>
      rw [e] at q
      cases q
    | some u =>
      rw [e] at q
      have e2 : u = d := Option.some.inj (Option.some.inj q)
      subst e2
      obtain ⟨v, h1, h2⟩ := r.get e
      refine ⟨v, ?_, h2⟩
      rw [List.getElem?_append_left (by rw [List.length_map, hl]; exact hi), List.getElem?_map, h1]
      rfl
  · rw [List.getElem?_append_right (by simpa using hi), List.getElem?_replicate] at q
    split at q <;> cases q
end
end Ly

set_option maxHeartbeats 2000000
namespace Ly
open PySem L2

/-! ## what expressions come to -/
/-- what is wanted of a value that is one of P -/
abbrev Go (W : Wd) (K : PySem.W.Frag) (G H : Hp) (P : Dat → Prop) (Q : VK) : Prop := ∀ v d G2 H2, Stp W G H G2 H2 → P d → Rep K G2 v d → Q v H2
def Ev (W : Wd) (K : PySem.W.Frag) (te : TE) (Γ : List (Option Dat)) (P : Dat → Prop) : Prop := ∀ σ G H, Env K G σ Γ → Ok W G H → ∀ Q : VK, Go W K G H P Q → te σ H Q
abbrev EvX (W : Wd) (K : PySem.W.Frag) (te : TE) (Γ : List (Option Dat)) (d : Dat) : Prop := Ev W K te Γ (· = d)
def EvB (W : Wd) (K : PySem.W.Frag) (tt : TT) (Γ : List (Option Dat)) (P : Bool → Prop) : Prop := ∀ σ G H, Env K G σ Γ → Ok W G H → ∀ Q : Bool → Hp → Prop, (∀ b G2 H2, Stp W G H G2 H2 → P b → Q b H2) → tt σ H Q
abbrev EvBX (W : Wd) (K : PySem.W.Frag) (tt : TT) (Γ : List (Option Dat)) (b : Bool) : Prop := EvB W K tt Γ (· = b)
def EvA (W : Wd) (K : PySem.W.Frag) (ta : TA) (Γ : List (Option Dat)) (P : List Dat → Prop) : Prop := ∀ σ G H, Env K G σ Γ → Ok W G H → ∀ Q : List V → Hp → Prop, (∀ vs ds G2 H2, Stp W G H G2 H2 → P ds → Reps K G2 vs ds → Q vs H2) → ta σ H Q
abbrev EvAX (W : Wd) (K : PySem.W.Frag) (ta : TA) (Γ : List (Option Dat)) (ds : List Dat) : Prop := EvA W K ta Γ (· = ds)
def EvO (W : Wd) (K : PySem.W.Frag) (to : TO) (Γ : List (Option Dat)) (P : Option Int → Prop) : Prop := ∀ σ G H, Env K G σ Γ → Ok W G H → ∀ Q : Option Int → Hp → Prop, (∀ o G2 H2, Stp W G H G2 H2 → P o → Q o H2) → to σ H Q
/-- a new list -/
def EvN (W : Wd) (K : PySem.W.Frag) (te : TE) (Γ : List (Option Dat)) (P : List Dat → Prop) : Prop := ∀ σ G H, Env K G σ Γ → Ok W G H → ∀ Q : VK, (∀ p xs ds G2 H2, Stp W G H G2 H2 → H p = none → G2 p = none → H2 p = some (.lst xs) → Reps K G2 xs ds → P ds → Q (.ref p) H2) → te σ H Q
/-- operations by values -/
def RV (W : Wd) (K : PySem.W.Frag) (r : R2) (a b : Dat) (P : Dat → Prop) : Prop := ∀ G H x y, Ok W G H → Rep K G x a → Rep K G y b → ∀ Q : VK, Go W K G H P Q → r x y H Q
def RU (W : Wd) (K : PySem.W.Frag) (r : V → Hp → VK → Prop) (a : Dat) (P : Dat → Prop) : Prop := ∀ G H x, Ok W G H → Rep K G x a → ∀ Q : VK, Go W K G H P Q → r x H Q
def RC (W : Wd) (K : PySem.W.Frag) (r : List V → Hp → VK → Prop) (ds : List Dat) (P : Dat → Prop) : Prop := ∀ G H xs, Ok W G H → Reps K G xs ds → ∀ Q : VK, Go W K G H P Q → r xs H Q

section
variable {W : Wd} {K : PySem.W.Frag} {Γ : List (Option Dat)} {ta tb tc te : TE} {tt tu : TT} {tA : TA} {P R S : Dat → Prop} {a b d e : Dat} {G H G2 H2 : Hp}
theorem Go.here {Q : VK} {v : V} (q : Go W K G H P Q) (k : Ok W G H) (r : Rep K G v d) (p : P d) : Q v H := q v d G H (Stp.refl k) p r
theorem Go.step {Q : VK} (q : Go W K G H P Q) (s : Stp W G H G2 H2) : Go W K G2 H2 P Q := fun v d G3 H3 t p r => q v d G3 H3 (s.trans t) p r
theorem Ev.imp (h : Ev W K te Γ P) (i : ∀ d, P d → R d) : Ev W K te Γ R := fun σ G H n k Q q => h σ G H n k Q fun v d G2 H2 s p r => q v d G2 H2 s (i d p) r
theorem EvB.imp {P R : Bool → Prop} (h : EvB W K tt Γ P) (i : ∀ d, P d → R d) : EvB W K tt Γ R := fun σ G H n k Q q => h σ G H n k Q fun b G2 H2 s p => q b G2 H2 s (i b p)
theorem EvX.to (h : EvX W K te Γ a) (i : a = b) : EvX W K te Γ b := i ▸ h
theorem EvX.any (h : EvX W K te Γ a) (i : P a) : Ev W K te Γ P := h.imp fun d e => e ▸ i
theorem EvBX.to {a b : Bool} (h : EvBX W K tt Γ a) (i : a = b) : EvBX W K tt Γ b := i ▸ h

theorem v_var {i : Nat} (h : Γ[i]? = some (some d)) : EvX W K (tVar i) Γ d := fun σ G H n k Q q => by
  obtain ⟨v, h1, h2⟩ := n.at' i d h
  exact ⟨v, h1, q.here k h2 rfl⟩
theorem v_int {i : Int} : EvX W K (tC (.int i)) Γ (.int i) := fun σ G H n k Q q => q.here k (.int i) rfl
theorem v_bl {b : Bool} : EvX W K (tC (.bl b)) Γ (.bl b) := fun σ G H n k Q q => q.here k (.bl b) rfl
theorem v_str {x : Str} : EvX W K (tC (.str x)) Γ (.str x) := fun σ G H n k Q q => q.here k (.str x) rfl
theorem v_non : EvX W K (tC .non) Γ .non := fun σ G H n k Q q => q.here k .non rfl
theorem v_op {r : R2} (ha : Ev W K ta Γ P) (hb : Ev W K tb Γ R) (hr : ∀ a b, P a → R b → RV W K r a b S) : Ev W K (tOp r ta tb) Γ S := fun σ G H n k Q q =>
  ha σ G H n k _ fun x dx G2 H2 s px rx => hb σ G2 H2 (n.mono s.gg) (s.ok k) _ fun y dy G3 H3 t py ry =>
    hr dx dy px py G3 H3 x y (t.ok (s.ok k)) (rx.mono t.gg) ry Q (q.step (s.trans t))
theorem v_opx {r : R2} (ha : EvX W K ta Γ a) (hb : EvX W K tb Γ b) (hr : RV W K r a b S) : Ev W K (tOp r ta tb) Γ S := v_op ha hb fun x y hx hy => by
  subst hx hy
  exact hr
theorem v_un {r : V → Hp → VK → Prop} (ha : Ev W K ta Γ P) (hr : ∀ a, P a → RU W K r a S) : Ev W K (tUn r ta) Γ S := fun σ G H n k Q q =>
  ha σ G H n k _ fun x dx G2 H2 s px rx => hr dx px G2 H2 x (s.ok k) rx Q (q.step s)
theorem v_neg {i : Int} (ha : EvX W K ta Γ (.int i)) : EvX W K (tUn (rU fun i => .int (-i)) ta) Γ (.int (-i)) := v_un ha fun d e => by
  subst e
  intro G H x k r Q q
  cases r
  exact ⟨i, rfl, q.here k (.int _) rfl⟩
/-! by values -/
theorem rv_I0 {g : Int → Int → Dat} {g' : Int → Int → V} {i j : Int} (hg : ∀ G, Rep K G (g' i j) (g i j)) : RV W K (rI0 g') (.int i) (.int j) (· = g i j) := fun G H x y k rx ry Q q => by
  cases rx
  cases ry
  exact ⟨i, j, rfl, rfl, q.here k (hg G) rfl⟩
theorem rv_I {C : Int → Int → Prop} {g : Int → Int → Dat} {g' : Int → Int → V} {i j : Int} (hg : ∀ G, Rep K G (g' i j) (g i j)) (hc : C i j) : RV W K (rI C g') (.int i) (.int j) (· = g i j) := fun G H x y k rx ry Q q => by
  cases rx
  cases ry
  exact ⟨i, j, rfl, rfl, hc, q.here k (hg G) rfl⟩
theorem v_add {i j : Int} (ha : EvX W K ta Γ (.int i)) (hb : EvX W K tb Γ (.int j)) : EvX W K (tOp (rI0 fun i j => .int (i + j)) ta tb) Γ (.int (i + j)) := v_opx ha hb (rv_I0 (g := fun i j => .int (i + j)) fun _ => .int _)
theorem v_sub {i j : Int} (ha : EvX W K ta Γ (.int i)) (hb : EvX W K tb Γ (.int j)) : EvX W K (tOp (rI0 fun i j => .int (i - j)) ta tb) Γ (.int (i - j)) := v_opx ha hb (rv_I0 (g := fun i j => .int (i - j)) fun _ => .int _)
theorem v_mul {i j : Int} (ha : EvX W K ta Γ (.int i)) (hb : EvX W K tb Γ (.int j)) (hc : CMul i j) : EvX W K (tOp (rI CMul fun i j => .int (i * j)) ta tb) Γ (.int (i * j)) := v_opx ha hb (rv_I (g := fun i j => .int (i * j)) (fun _ => .int _) hc)
theorem v_fdiv {i j : Int} (ha : EvX W K ta Γ (.int i)) (hb : EvX W K tb Γ (.int j)) (hc : CDiv i j) : EvX W K (tOp (rI CDiv fun i j => .int (i / j)) ta tb) Γ (.int (i / j)) := v_opx ha hb (rv_I (g := fun i j => .int (i / j)) (fun _ => .int _) hc)
theorem v_mod {i j : Int} (ha : EvX W K ta Γ (.int i)) (hb : EvX W K tb Γ (.int j)) (hc : 0 < j) : EvX W K (tOp (rI (fun _ j => 0 < j) fun i j => .int (i % j)) ta tb) Γ (.int (i % j)) := v_opx ha hb (rv_I (C := fun _ j => 0 < j) (g := fun i j => .int (i % j)) (fun _ => .int _) hc)
theorem v_lt {i j : Int} (ha : EvX W K ta Γ (.int i)) (hb : EvX W K tb Γ (.int j)) : EvX W K (tOp (rI0 fun i j => .bl (decide (i < j))) ta tb) Γ (.bl (decide (i < j))) := v_opx ha hb (rv_I0 (g := fun i j => .bl (decide (i < j))) fun _ => .bl _)
theorem v_le {i j : Int} (ha : EvX W K ta Γ (.int i)) (hb : EvX W K tb Γ (.int j)) : EvX W K (tOp (rI0 fun i j => .bl (decide (i ≤ j))) ta tb) Γ (.bl (decide (i ≤ j))) := v_opx ha hb (rv_I0 (g := fun i j => .bl (decide (i ≤ j))) fun _ => .bl _)
theorem v_gt {i j : Int} (ha : EvX W K ta Γ (.int i)) (hb : EvX W K tb Γ (.int j)) : EvX W K (tOp (rI0 fun i j => .bl (decide (j < i))) ta tb) Γ (.bl (decide (j < i))) := v_opx ha hb (rv_I0 (g := fun i j => .bl (decide (j < i))) fun _ => .bl _)
theorem v_ge {i j : Int} (ha : EvX W K ta Γ (.int i)) (hb : EvX W K tb Γ (.int j)) : EvX W K (tOp (rI0 fun i j => .bl (decide (j ≤ i))) ta tb) Γ (.bl (decide (j ≤ i))) := v_opx ha hb (rv_I0 (g := fun i j => .bl (decide (j ≤ i))) fun _ => .bl _)
/-- == of scalars by data -/
def sd : Dat → V
  | .non => .non | .bl b => .bl b | .int i => .int i | .str x => .str x | .adr a => .ref a | _ => .non
def issd : Dat → Bool
  | .non => true | .bl _ => true | .int _ => true | .str _ => true | _ => false
theorem sd_rep {v : V} {d : Dat} (h : issd d = true) (r : Rep K G v d) : v = sd d := by
  cases r <;> first | rfl | cases h
theorem rv_eq (h1 : issd a = true) (h2 : issd b = true) (hs : scal (sd a) (sd b) = true) : RV W K rEq a b (· = .bl (decide (sd a = sd b))) := fun G H x y k rx ry Q q => by
  have e1 := sd_rep h1 rx
  have e2 := sd_rep h2 ry
  subst e1 e2
  exact ⟨hs, q.here k (.bl _) rfl⟩
theorem rv_ne (h1 : issd a = true) (h2 : issd b = true) (hs : scal (sd a) (sd b) = true) : RV W K rNe a b (· = .bl (!decide (sd a = sd b))) := fun G H x y k rx ry Q q => by
  have e1 := sd_rep h1 rx
  have e2 := sd_rep h2 ry
  subst e1 e2
  exact ⟨hs, q.here k (.bl _) rfl⟩
theorem v_eqI {i j : Int} (ha : EvX W K ta Γ (.int i)) (hb : EvX W K tb Γ (.int j)) : EvX W K (tOp rEq ta tb) Γ (.bl (decide (i = j))) := by
  have h := v_opx ha hb (rv_eq (W := W) (K := K) (a := .int i) (b := .int j) rfl rfl rfl)
  have e : decide (sd (.int i) = sd (.int j)) = decide (i = j) := by
    show decide (V.int i = V.int j) = decide (i = j)
    by_cases q : i = j
    · subst q; simp
    · rw [decide_eq_false q, decide_eq_false (fun z => q (V.int.inj z))]
  rw [e] at h
  exact h
theorem v_neI {i j : Int} (ha : EvX W K ta Γ (.int i)) (hb : EvX W K tb Γ (.int j)) : EvX W K (tOp rNe ta tb) Γ (.bl (!decide (i = j))) := by
  have h := v_opx ha hb (rv_ne (W := W) (K := K) (a := .int i) (b := .int j) rfl rfl rfl)
  have e : decide (sd (.int i) = sd (.int j)) = decide (i = j) := by
    show decide (V.int i = V.int j) = decide (i = j)
    by_cases q : i = j
    · subst q; simp
    · rw [decide_eq_false q, decide_eq_false (fun z => q (V.int.inj z))]
  rw [e] at h
  exact h
theorem v_eqS {i j : Str} (ha : EvX W K ta Γ (.str i)) (hb : EvX W K tb Γ (.str j)) : EvX W K (tOp rEq ta tb) Γ (.bl (decide (i = j))) := by
  have h := v_opx ha hb (rv_eq (W := W) (K := K) (a := .str i) (b := .str j) rfl rfl rfl)
  have e : decide (sd (.str i) = sd (.str j)) = decide (i = j) := by
    show decide (V.str i = V.str j) = decide (i = j)
    by_cases q : i = j
    · subst q; simp
    · rw [decide_eq_false q, decide_eq_false (fun z => q (V.str.inj z))]
  rw [e] at h
  exact h
theorem v_eqB {i j : Bool} (ha : EvX W K ta Γ (.bl i)) (hb : EvX W K tb Γ (.bl j)) : EvX W K (tOp rEq ta tb) Γ (.bl (decide (i = j))) := by
  have h := v_opx ha hb (rv_eq (W := W) (K := K) (a := .bl i) (b := .bl j) rfl rfl rfl)
  have e : decide (sd (.bl i) = sd (.bl j)) = decide (i = j) := by
    show decide (V.bl i = V.bl j) = decide (i = j)
    by_cases q : i = j
    · subst q; simp
    · rw [decide_eq_false q, decide_eq_false (fun z => q (V.bl.inj z))]
  rw [e] at h
  exact h
theorem v_neB {i j : Bool} (ha : EvX W K ta Γ (.bl i)) (hb : EvX W K tb Γ (.bl j)) : EvX W K (tOp rNe ta tb) Γ (.bl (!decide (i = j))) := by
  have h := v_opx ha hb (rv_ne (W := W) (K := K) (a := .bl i) (b := .bl j) rfl rfl rfl)
  have e : decide (sd (.bl i) = sd (.bl j)) = decide (i = j) := by
    show decide (V.bl i = V.bl j) = decide (i = j)
    by_cases q : i = j
    · subst q; simp
    · rw [decide_eq_false q, decide_eq_false (fun z => q (V.bl.inj z))]
  rw [e] at h
  exact h
def isN : Dat → Bool
  | .non => true
  | _ => false
theorem v_isN (ha : Ev W K ta Γ P) (hp : ∀ d, P d → S (.bl (isN d))) : Ev W K (tIsN ta) Γ S := fun σ G H n k Q q =>
  ha σ G H n k _ fun x dx G2 H2 s px rx => by
    have e : decide (x = .non) = isN dx := by cases rx <;> rfl
    show Q (.bl (decide (x = .non))) H2
    rw [e]
    exact (q.step s).here (s.ok k) (.bl _) (hp dx px)
theorem v_isNx (ha : EvX W K ta Γ a) : EvX W K (tIsN ta) Γ (.bl (isN a)) := v_isN ha fun d e => by subst e; rfl
theorem v_notNx (ha : EvX W K ta Γ a) : EvX W K (tNotN ta) Γ (.bl (!(isN a))) := fun σ G H n k Q q =>
  ha σ G H n k _ fun x dx G2 H2 s px rx => by
    subst px
    have e : decide (x = .non) = isN dx := by cases rx <;> rfl
    show Q (.bl (!decide (x = .non))) H2
    rw [e]
    exact (q.step s).here (s.ok k) (.bl _) rfl

/-! ## tests -/
theorem b_test {P : Bool → Prop} (h : Ev W K te Γ fun d => ∃ b, d = .bl b ∧ P b) : EvB W K (tTest te) Γ P := fun σ G H n k Q q => h σ G H n k _ fun v d G2 H2 s ⟨b, e, p⟩ r => by
  subst e
  cases r
  exact ⟨b, rfl, q b G2 H2 s p⟩
theorem b_testx {b : Bool} (h : EvX W K te Γ (.bl b)) : EvBX W K (tTest te) Γ b := b_test (h.imp fun d e => ⟨b, e, rfl⟩)
theorem b_B {P : Bool → Prop} (h : Ev W K te Γ fun d => ∃ b, d = .bl b ∧ P b) : EvB W K (tB te) Γ P := fun σ G H n k Q q => h σ G H n k _ fun v d G2 H2 s ⟨b, e, p⟩ r => by
  subst e
  cases r
  exact ⟨b, rfl, q b G2 H2 s p⟩
theorem b_Bx {b : Bool} (h : EvX W K te Γ (.bl b)) : EvBX W K (tB te) Γ b := b_B (h.imp fun d e => ⟨b, e, rfl⟩)
theorem b_and {P R S : Bool → Prop} (h1 : EvB W K tt Γ P) (h2 : P true → EvB W K tu Γ R) (i : P false → S false) (j : ∀ b, R b → S b) : EvB W K (tAnd tt tu) Γ S := fun σ G H n k Q q =>
  h1 σ G H n k _ fun c G2 H2 s p => by
    cases c with
    | true =>
      show tu σ H2 Q
      exact h2 p σ G2 H2 (n.mono s.gg) (s.ok k) Q fun b G3 H3 t r => q b G3 H3 (s.trans t) (j b r)
    | false =>
      show Q false H2
      exact q false G2 H2 s (i p)
theorem b_andx {a b : Bool} (h1 : EvBX W K tt Γ a) (h2 : a = true → EvBX W K tu Γ b) : EvBX W K (tAnd tt tu) Γ (a && b) := by
  cases a with
  | true => exact b_and h1 (fun _ => h2 rfl) (fun e => nomatch e) (fun c e => e)
  | false => exact b_and (R := fun _ => False) h1 (fun e => nomatch e) (fun _ => rfl) (fun c e => e.elim)
theorem b_or {P R S : Bool → Prop} (h1 : EvB W K tt Γ P) (h2 : P false → EvB W K tu Γ R) (i : P true → S true) (j : ∀ b, R b → S b) : EvB W K (tOr tt tu) Γ S := fun σ G H n k Q q =>
  h1 σ G H n k _ fun c G2 H2 s p => by
    cases c with
    | false =>
      show tu σ H2 Q
      exact h2 p σ G2 H2 (n.mono s.gg) (s.ok k) Q fun b G3 H3 t r => q b G3 H3 (s.trans t) (j b r)
    | true =>
      show Q true H2
      exact q true G2 H2 s (i p)
theorem b_orx {a b : Bool} (h1 : EvBX W K tt Γ a) (h2 : a = false → EvBX W K tu Γ b) : EvBX W K (tOr tt tu) Γ (a || b) := by
  cases a with
  | false => exact b_or h1 (fun _ => h2 rfl) (fun e => nomatch e) (fun c e => e)
  | true => exact b_or (R := fun _ => False) h1 (fun e => nomatch e) (fun _ => rfl) (fun c e => e.elim)
theorem b_not {P : Bool → Prop} (h : EvB W K tt Γ fun b => P (!b)) : EvB W K (tNot tt) Γ P := fun σ G H n k Q q => h σ G H n k _ fun b G2 H2 s p => q _ G2 H2 s p
theorem b_notx {a : Bool} (h : EvBX W K tt Γ a) : EvBX W K (tNot tt) Γ (!a) := b_not (h.imp fun d e => by rw [e])
/-- and, or, not as values -/
theorem v_andx {a b : Bool} (h1 : EvX W K ta Γ (.bl a)) (h2 : a = true → EvX W K tb Γ (.bl b)) : EvX W K (tAndV ta tb) Γ (.bl (a && b)) := fun σ G H n k Q q => h1 σ G H n k _ fun v d G2 H2 s e r => by
  subst e
  cases r
  refine ⟨a, rfl, ?_⟩
  cases a with
  | true =>
    show tb σ H2 Q
    exact h2 rfl σ G2 H2 (n.mono s.gg) (s.ok k) Q (q.step s)
  | false =>
    show Q (.bl false) H2
    exact (q.step s).here (s.ok k) (.bl _) rfl
theorem v_orx {a b : Bool} (h1 : EvX W K ta Γ (.bl a)) (h2 : a = false → EvX W K tb Γ (.bl b)) : EvX W K (tOrV ta tb) Γ (.bl (a || b)) := fun σ G H n k Q q => h1 σ G H n k _ fun v d G2 H2 s e r => by
  subst e
  cases r
  refine ⟨a, rfl, ?_⟩
  cases a with
  | false =>
    show tb σ H2 Q
    exact h2 rfl σ G2 H2 (n.mono s.gg) (s.ok k) Q (q.step s)
  | true =>
    show Q (.bl true) H2
    exact (q.step s).here (s.ok k) (.bl _) rfl
theorem v_notx {a : Bool} (h1 : EvX W K ta Γ (.bl a)) : EvX W K (tNotV ta) Γ (.bl (!a)) := fun σ G H n k Q q => h1 σ G H n k _ fun v d G2 H2 s e r => by
  subst e
  cases r
  exact ⟨a, rfl, (q.step s).here (s.ok k) (.bl _) rfl⟩
theorem v_if {P : Bool → Prop} (h : EvB W K tt Γ P) (h1 : P true → Ev W K ta Γ R) (h2 : P false → Ev W K tb Γ R) : Ev W K (tIf tt ta tb) Γ R := fun σ G H n k Q q => h σ G H n k _ fun c G2 H2 s p => by
  cases c with
  | true =>
    show ta σ H2 Q
    exact h1 p σ G2 H2 (n.mono s.gg) (s.ok k) Q (q.step s)
  | false =>
    show tb σ H2 Q
    exact h2 p σ G2 H2 (n.mono s.gg) (s.ok k) Q (q.step s)
theorem v_ifx {c : Bool} (h : EvBX W K tt Γ c) (h1 : c = true → EvX W K ta Γ a) (h2 : c = false → EvX W K tb Γ b) : EvX W K (tIf tt ta tb) Γ (if c = true then a else b) := v_if h (fun e => by rw [← e]; exact h1 e.symm) (fun e => by rw [← e]; exact h2 e.symm)
/-- a chain of two comparisons of ints -/
theorem v_chain {r r' : R2} {x y z : Dat} {c1 c2 : Bool} (ha : EvX W K ta Γ x) (hb : EvX W K tb Γ y) (hc : EvX W K tc Γ z) (h1 : RV W K r x y (· = .bl c1)) (h2 : RV W K r' y z (· = .bl c2)) : EvX W K (tChain r r' ta tb tc) Γ (.bl (c1 && c2)) := fun σ G H n k Q q =>
  ha σ G H n k _ fun vx dx G2 H2 s2 ex rx => hb σ G2 H2 (n.mono s2.gg) (s2.ok k) _ fun vy dy G3 H3 s3 ey ry => by
    subst ex ey
    have k3 := s3.ok (s2.ok k)
    refine h1 G3 H3 vx vy k3 (rx.mono s3.gg) ry _ fun v4 d4 G4 H4 s4 e4 r4 => ?_
    subst e4
    cases r4
    refine ⟨c1, rfl, ?_⟩
    have s14 := (s2.trans s3).trans s4
    cases c1 with
    | true =>
      rw [if_pos rfl]
      refine hc σ G4 H4 (n.mono s14.gg) (s14.ok k) _ fun vz dz G5 H5 s5 ez rz => ?_
      subst ez
      refine h2 G5 H5 vy vz (s5.ok (s14.ok k)) (ry.mono (s4.gg.trans s5.gg)) rz Q ?_
      exact q.step (s14.trans s5)
    | false =>
      rw [if_neg Bool.false_ne_true]
      exact (q.step s14).here (s14.ok k) (.bl _) rfl
theorem r_le {i j : Int} : RV W K (rI0 fun i j => .bl (decide (i ≤ j))) (.int i) (.int j) (· = .bl (decide (i ≤ j))) := rv_I0 (g := fun i j => .bl (decide (i ≤ j))) fun _ => .bl _
theorem r_lt {i j : Int} : RV W K (rI0 fun i j => .bl (decide (i < j))) (.int i) (.int j) (· = .bl (decide (i < j))) := rv_I0 (g := fun i j => .bl (decide (i < j))) fun _ => .bl _

/-! ## arguments, displays -/
theorem a_nil : EvAX W K tNil Γ [] := fun σ G H n k Q q => q [] [] G H (Stp.refl k) rfl .nil
theorem a_cons {P : Dat → Prop} {R : List Dat → Prop} (h : Ev W K ta Γ P) (h2 : EvA W K tA Γ R) : EvA W K (tCons ta tA) Γ fun ds => ∃ d r, ds = d :: r ∧ P d ∧ R r := fun σ G H n k Q q =>
  h σ G H n k _ fun v d G2 H2 s p r => h2 σ G2 H2 (n.mono s.gg) (s.ok k) _ fun vs ds G3 H3 t pr rr => q _ _ G3 H3 (s.trans t) ⟨d, ds, rfl, p, pr⟩ (.cons (r.mono t.gg) rr)
theorem a_consx {ds : List Dat} (h : EvX W K ta Γ d) (h2 : EvAX W K tA Γ ds) : EvAX W K (tCons ta tA) Γ (d :: ds) := fun σ G H n k Q q =>
  h σ G H n k _ fun v d G2 H2 s p r => h2 σ G2 H2 (n.mono s.gg) (s.ok k) _ fun vs ds G3 H3 t pr rr => q _ _ G3 H3 (s.trans t) (by rw [p, pr]) (.cons (r.mono t.gg) rr)
theorem EvA.imp {P R : List Dat → Prop} (h : EvA W K tA Γ P) (i : ∀ d, P d → R d) : EvA W K tA Γ R := fun σ G H n k Q q => h σ G H n k Q fun v d G2 H2 s p r => q v d G2 H2 s (i d p) r
theorem sz_of {n : Nat} (h : n ≤ 100000) : n ≤ sizeLine := Nat.le_trans h (by decide)
theorem sz_lt {n : Nat} (h : n < 100000) : n < sizeLine := Nat.lt_of_lt_of_le h (by decide)
theorem v_tup {P : List Dat → Prop} (h : EvA W K tA Γ P) (hl : ∀ ds, P ds → ds.length ≤ 100000) (i : ∀ ds, P ds → S (.tup ds)) : Ev W K (tTup tA) Γ S := fun σ G H n k Q q =>
  h σ G H n k _ fun vs ds G2 H2 s p r => ⟨by rw [r.length]; exact sz_of (hl ds p), fun a ha => q _ (.tup ds) _ _ (s.trans (Stp.new (s.ok k) ha)) (i ds p) (.tup (t_of upd_same) (r.mono (Stp.new (s.ok k) (W := W) ha).gg))⟩
theorem v_tupx {ds : List Dat} (h : EvAX W K tA Γ ds) (hl : ds.length ≤ 100000) : EvX W K (tTup tA) Γ (.tup ds) := v_tup h (fun _ e => by rw [e]; exact hl) (fun _ e => by rw [e])
theorem v_lst {P : List Dat → Prop} (h : EvA W K tA Γ P) (hl : ∀ ds, P ds → ds.length ≤ 100000) (i : ∀ ds, P ds → S (.lst ds)) : Ev W K (tLst tA) Γ S := fun σ G H n k Q q =>
  h σ G H n k _ fun vs ds G2 H2 s p r => ⟨by rw [r.length]; exact sz_of (hl ds p), fun a ha => q _ (.lst ds) _ _ (s.trans (Stp.new (s.ok k) ha)) (i ds p) (.lst (l_of upd_same) (r.mono (Stp.new (s.ok k) (W := W) ha).gg))⟩
theorem v_lstx {ds : List Dat} (h : EvAX W K tA Γ ds) (hl : ds.length ≤ 100000) : EvX W K (tLst tA) Γ (.lst ds) := v_lst h (fun _ e => by rw [e]; exact hl) (fun _ e => by rw [e])
theorem n_lst {P : List Dat → Prop} (h : EvA W K tA Γ P) (hl : ∀ ds, P ds → ds.length ≤ 100000) : EvN W K (tLst tA) Γ P := fun σ G H n k Q q =>
  h σ G H n k _ fun vs ds G2 H2 s p r => ⟨by rw [r.length]; exact sz_of (hl ds p), fun a ha => by
    have g2 : G2 a = none := by
      cases e : G2 a with
      | none => rfl
      | some u =>
        rw [s.gh a u e] at ha
        cases ha
    have h0 : H a = none := by
      cases e : H a with
      | none => rfl
      | some u =>
        by_cases hm : W.m a
        · obtain ⟨z, hz⟩ := W.tr s.inv hm
          rw [hz] at ha
          cases ha
        · rw [s.hh a u hm e] at ha
          cases ha
    exact q a vs ds G2 _ (s.trans (Stp.grow (s.ok k) (Ex.new ha))) h0 g2 upd_same r p⟩
/-- a new list, known from now on -/
theorem EvN.ev {P : List Dat → Prop} (h : EvN W K te Γ P) (i : ∀ ds, P ds → S (.lst ds)) : Ev W K te Γ S := fun σ G H n k Q q =>
  h σ G H n k _ fun p xs ds G2 H2 s h0 g2 h2 r pd => by
    have gg : Ex G2 (upd G2 p (.lst xs)) := Ex.new g2
    refine q _ (.lst ds) (upd G2 p (.lst xs)) H2 ⟨s.gg.trans gg, fun a o e => ?_, s.hh, fun a o e => ?_, s.inv⟩ (i ds pd) (.lst (l_of upd_same) (r.mono gg))
    · by_cases ea : a = p
      · subst ea
        rw [upd_same] at e
        rw [h2]
        exact e
      · rw [upd_ne ea] at e
        exact s.gh a o e
    · by_cases ea : a = p
      · subst ea
        exact .inr h0
      · rw [upd_ne ea] at e
        exact s.nw a o e

/-! ## subscripts, slices -/
theorem rv_ixL {ds : List Dat} {j : Nat} (h : ds[j]? = some d) : RV W K (rIxL K) (.lst ds) (.int (j : Int)) (· = d) := fun G H x y k rx ry Q q => by
  obtain ⟨a, xs, rfl, hs, r⟩ := rx.lst_inv
  cases ry
  obtain ⟨v, h1, h2⟩ := r.get h
  exact ⟨a, xs, (j : Int), v, rfl, rfl, ex_l k.ex hs, atI_nat h1, q.here k h2 rfl⟩
theorem rv_ixT {ds : List Dat} {j : Nat} (h : ds[j]? = some d) : RV W K (rIxT K) (.tup ds) (.int (j : Int)) (· = d) := fun G H x y k rx ry Q q => by
  obtain ⟨a, xs, rfl, hs, r⟩ := rx.tup_inv
  cases ry
  obtain ⟨v, h1, h2⟩ := r.get h
  exact ⟨a, xs, (j : Int), v, rfl, rfl, ex_t k.ex hs, atI_nat h1, q.here k h2 rfl⟩
theorem v_ixL {ds : List Dat} {i : Int} {j : Nat} (ha : EvX W K ta Γ (.lst ds)) (hb : EvX W K tb Γ (.int i)) (e : i = (j : Int)) (h : ds[j]? = some d) : EvX W K (tOp (rIxL K) ta tb) Γ d := v_opx ha (e ▸ hb) (rv_ixL h)
theorem v_ixT {ds : List Dat} {i : Int} {j : Nat} (ha : EvX W K ta Γ (.tup ds)) (hb : EvX W K tb Γ (.int i)) (e : i = (j : Int)) (h : ds[j]? = some d) : EvX W K (tOp (rIxT K) ta tb) Γ d := v_opx ha (e ▸ hb) (rv_ixT h)
theorem o_none : EvO W K tNoPart Γ (· = none) := fun σ G H n k Q q => q none G H (Stp.refl k) rfl
theorem o_some {i : Int} (h : EvX W K te Γ (.int i)) : EvO W K (tPart te) Γ (· = some i) := fun σ G H n k Q q => h σ G H n k _ fun v d G2 H2 s e r => by
  subst e
  cases r
  exact ⟨i, rfl, q _ G2 H2 s rfl⟩
/-- a slice by data -/
def cutD (ds : List Dat) (lo hi : Option Int) : List Dat := (ds.drop (HT.sIx ds.length 0 lo)).take (HT.sIx ds.length ds.length hi - HT.sIx ds.length 0 lo)
theorem cut_reps {G : Hp} {xs : List V} {ds : List Dat} (r : Reps K G xs ds) (lo hi : Option Int) : Reps K G (cutV xs lo hi) (cutD ds lo hi) := by
  unfold cutV cutD
  rw [r.length]
  exact (r.drop _).take _
theorem v_slT {tl th : TO} {ds : List Dat} {lo hi : Option Int} (h : EvX W K te Γ (.tup ds)) (h1 : EvO W K tl Γ (· = lo)) (h2 : EvO W K th Γ (· = hi)) : EvX W K (tSl (rSlA K) te tl th) Γ (.tup (cutD ds lo hi)) := fun σ G H n k Q q =>
  h σ G H n k _ fun v d G2 H2 s2 e r => by
    subst e
    refine h1 σ G2 H2 (n.mono s2.gg) (s2.ok k) _ fun o_lo G3 H3 s3 e3 => ?_
    subst e3
    have k3 := s3.ok (s2.ok k)
    refine h2 σ G3 H3 (n.mono (s2.gg.trans s3.gg)) k3 _ fun o_hi G4 H4 s4 e4 => ?_
    subst e4
    have s14 := (s2.trans s3).trans s4
    obtain ⟨a, xs, rfl, hs, r⟩ := (r.mono (s3.gg.trans s4.gg)).tup_inv
    have k4 := s14.ok k
    refine ⟨a, xs, rfl, ex_t k4.ex hs, fun w => ?_, fun _ p hp => ?_⟩
    · refine (q.step s14).here k4 (.tup hs ?_) rfl
      have e : cutD ds o_lo o_hi = ds := by
        unfold cutD
        rw [← r.length, w.1, w.2]
        simp [r.length]
      rw [e]
      exact r
    · exact (q.step s14) _ _ _ _ (Stp.new k4 hp) rfl (.tup (t_of upd_same) ((cut_reps r _ _).mono (Stp.new k4 hp (W := W)).gg))

theorem n_slL {tl th : TO} {ds : List Dat} {lo hi : Option Int} (h : EvX W K te Γ (.lst ds)) (h1 : EvO W K tl Γ (· = lo)) (h2 : EvO W K th Γ (· = hi)) : EvX W K (tSl (rSlL K) te tl th) Γ (.lst (cutD ds lo hi)) := fun σ G H n k Q q =>
  h σ G H n k _ fun v d G2 H2 s2 e r => by
    subst e
    refine h1 σ G2 H2 (n.mono s2.gg) (s2.ok k) _ fun o_lo G3 H3 s3 e3 => ?_
    subst e3
    have k3 := s3.ok (s2.ok k)
    refine h2 σ G3 H3 (n.mono (s2.gg.trans s3.gg)) k3 _ fun o_hi G4 H4 s4 e4 => ?_
    subst e4
    have s14 := (s2.trans s3).trans s4
    obtain ⟨a, xs, rfl, hs, r⟩ := (r.mono (s3.gg.trans s4.gg)).lst_inv
    have k4 := s14.ok k
    refine ⟨a, xs, rfl, ex_l k4.ex hs, fun p hp => ?_⟩
    exact (q.step s14) _ _ _ _ (Stp.new k4 hp) rfl (.lst (l_of upd_same) ((cut_reps r _ _).mono (Stp.new k4 hp (W := W)).gg))
theorem cutD_to (ds : List Dat) (n : Nat) : cutD ds none (some (n : Int)) = ds.take n := by
  unfold cutD
  rw [HT.sIx_none, HT.sIx_nat, List.drop_zero, Nat.sub_zero]
  by_cases h : n ≤ ds.length
  · rw [Nat.min_eq_left h]
  · rw [Nat.min_eq_right (by omega), List.take_of_length_le (Nat.le_refl _), List.take_of_length_le (by omega)]
theorem cutD_from (ds : List Dat) (n : Nat) : cutD ds (some (n : Int)) none = ds.drop n := by
  unfold cutD
  rw [HT.sIx_none, HT.sIx_nat]
  by_cases h : n ≤ ds.length
  · rw [Nat.min_eq_left h, List.take_of_length_le]
    rw [List.length_drop]
    exact Nat.le_refl _
  · rw [Nat.min_eq_right (by omega), List.drop_of_length_le (Nat.le_refl _), List.drop_of_length_le (by omega), List.take_nil]
/-! ## sums of tuples -/
theorem v_cat {xs ys : List Dat} (ha : EvX W K ta Γ (.tup xs)) (hb : EvX W K tb Γ (.tup ys)) (hz : xs.length + ys.length ≤ 100000) : EvX W K (tOp (rCatA K) ta tb) Γ (.tup (xs ++ ys)) := v_opx ha hb fun G H x y k rx ry Q q => by
  obtain ⟨a, vs, rfl, hs, r⟩ := rx.tup_inv
  obtain ⟨b, us, rfl, ht, t⟩ := ry.tup_inv
  refine ⟨a, b, vs, us, rfl, rfl, ex_t k.ex hs, ex_t k.ex ht, by rw [r.length, t.length]; exact sz_of hz, fun e => ?_, fun _ e => ?_, fun _ _ p hp => ?_⟩
  · subst e
    cases r
    exact q.here k (.tup ht t) rfl
  · subst e
    cases t
    rw [List.append_nil] at q
    exact q.here k (.tup hs r) rfl
  · exact q _ _ _ _ (Stp.new k hp) rfl (.tup (t_of upd_same) ((r.append t).mono (Stp.new k hp (W := W)).gg))
/-! ## built-ins -/
theorem v_cb {r : List V → Hp → VK → Prop} {P : List Dat → Prop} (h : EvA W K tA Γ P) (hr : ∀ ds, P ds → RC W K r ds S) : Ev W K (tCB r tA) Γ S := fun σ G H n k Q q =>
  h σ G H n k _ fun vs ds G2 H2 s p rr => hr ds p G2 H2 vs (s.ok k) rr Q (q.step s)
theorem v_cbx {r : List V → Hp → VK → Prop} {ds : List Dat} (h : EvAX W K tA Γ ds) (hr : RC W K r ds S) : Ev W K (tCB r tA) Γ S := v_cb h fun _ e => by rw [e]; exact hr
abbrev rLen (K : PySem.W.Frag) : List V → Hp → VK → Prop := fun xs H Q => ∃ p ys, xs = [.ref p] ∧ (SqL K H p ys ∨ SqT K H p ys) ∧ Q (.int ys.length) H
theorem v_lenT {ds : List Dat} (h : EvX W K ta Γ (.tup ds)) : EvX W K (tCB (rLen K) (tCons ta tNil)) Γ (.int (ds.length : Int)) := v_cbx (a_consx h a_nil) fun G H xs k r Q q => by
  cases r with
  | cons r r0 =>
    cases r0
    obtain ⟨a, vs, rfl, hs, r⟩ := r.tup_inv
    exact ⟨a, vs, rfl, .inr (ex_t k.ex hs), by rw [r.length]; exact q.here k (.int _) rfl⟩
theorem v_lenL {ds : List Dat} (h : EvX W K ta Γ (.lst ds)) : EvX W K (tCB (rLen K) (tCons ta tNil)) Γ (.int (ds.length : Int)) := v_cbx (a_consx h a_nil) fun G H xs k r Q q => by
  cases r with
  | cons r r0 =>
    cases r0
    obtain ⟨a, vs, rfl, hs, r⟩ := r.lst_inv
    exact ⟨a, vs, rfl, .inl (ex_l k.ex hs), by rw [r.length]; exact q.here k (.int _) rfl⟩
theorem v_tupleL {P : List Dat → Prop} (h : Ev W K te Γ fun d => ∃ ds, d = .lst ds ∧ S (.tup ds)) : Ev W K (tThen te (kTup K)) Γ S := fun σ G H n k Q q =>
  h σ G H n k _ fun v d G2 H2 s ⟨ds, e, p⟩ r => by
    subst e
    obtain ⟨a, vs, rfl, hs, r⟩ := r.lst_inv
    have k2 := s.ok k
    exact .inl ⟨a, vs, rfl, ex_l k2.ex hs, fun p' hp => (q.step s) _ _ _ _ (Stp.new k2 hp) p (.tup (t_of upd_same) (r.mono (Stp.new k2 hp (W := W)).gg))⟩
theorem v_tupleLx {ds : List Dat} (h : EvX W K te Γ (.lst ds)) : EvX W K (tThen te (kTup K)) Γ (.tup ds) := v_tupleL (P := fun _ => True) (h.imp fun d e => ⟨ds, e, rfl⟩)
theorem v_tupleTx {ds : List Dat} (h : EvX W K te Γ (.tup ds)) : EvX W K (tThen te (kTup K)) Γ (.tup ds) := fun σ G H n k Q q =>
  h σ G H n k _ fun v d G2 H2 s e r => by
    subst e
    obtain ⟨a, vs, rfl, hs, r⟩ := r.tup_inv
    have k2 := s.ok k
    exact .inr ⟨a, vs, rfl, ex_t k2.ex hs, (q.step s).here k2 (.tup hs r) rfl⟩
abbrev rLst (K : PySem.W.Frag) : List V → Hp → VK → Prop := fun xs H Q => ∃ p ys, xs = [.ref p] ∧ (SqL K H p ys ∨ SqT K H p ys) ∧ ∀ l, H l = none → Q (.ref l) (upd H l (.lst ys))
theorem back {G H G2 H2 : Hp} {a : Addr} (s : Stp W G H G2 H2) (ha : H2 a = none) : H a = none ∧ G2 a = none := by
  constructor
  · cases e : H a with
    | none => rfl
    | some u =>
      by_cases hm : W.m a
      · obtain ⟨z, hz⟩ := W.tr s.inv hm
        rw [hz] at ha
        cases ha
      · rw [s.hh a u hm e] at ha
        cases ha
  · cases e : G2 a with
    | none => rfl
    | some u =>
      rw [s.gh a u e] at ha
      cases ha
theorem n_listL {ds : List Dat} (h : EvX W K ta Γ (.lst ds)) : EvN W K (tCB (rLst K) (tCons ta tNil)) Γ (· = ds) := fun σ G H n k Q q =>
  a_consx h a_nil σ G H n k _ fun vs es G2 H2 s e r => by
    subst e
    cases r with
    | cons r r0 =>
      cases r0
      obtain ⟨a, vs, rfl, hs, r⟩ := r.lst_inv
      exact ⟨a, vs, rfl, .inl (ex_l (s.ok k).ex hs), fun l hl => q l vs ds G2 _ (s.trans (Stp.grow (s.ok k) (Ex.new hl))) (back s hl).1 (back s hl).2 upd_same r rfl⟩
theorem n_listT {ds : List Dat} (h : EvX W K ta Γ (.tup ds)) : EvN W K (tCB (rLst K) (tCons ta tNil)) Γ (· = ds) := fun σ G H n k Q q =>
  a_consx h a_nil σ G H n k _ fun vs es G2 H2 s e r => by
    subst e
    cases r with
    | cons r r0 =>
      cases r0
      obtain ⟨a, vs, rfl, hs, r⟩ := r.tup_inv
      exact ⟨a, vs, rfl, .inr (ex_t (s.ok k).ex hs), fun l hl => q l vs ds G2 _ (s.trans (Stp.grow (s.ok k) (Ex.new hl))) (back s hl).1 (back s hl).2 upd_same r rfl⟩
abbrev rInt1 : List V → Hp → VK → Prop := fun xs H Q => (∃ i, xs = [.int i] ∧ Q (.int i) H) ∨ ∃ k, xs = [.bl k] ∧ Q (.int (if k then 1 else 0)) H
theorem v_int1 {i : Int} (h : EvX W K ta Γ (.int i)) : EvX W K (tCB rInt1 (tCons ta tNil)) Γ (.int i) := v_cbx (a_consx h a_nil) fun G H xs k r Q q => by
  cases r with
  | cons r r0 =>
    cases r0
    cases r
    exact .inl ⟨i, rfl, q.here k (.int _) rfl⟩
/-- all(..) of a list of truth values -/
theorem reps_bools {G : Hp} : ∀ {bs : List Bool} {xs : List V}, Reps K G xs (bs.map Dat.bl) → xs = bs.map V.bl
  | [], _, h => by
    cases h
    rfl
  | b :: bs, _, h => by
    cases h with
    | cons h r =>
      cases h
      rw [reps_bools (bs := bs) r]
      rfl
theorem v_all {bs : List Bool} (h : EvX W K ta Γ (.lst (bs.map Dat.bl))) : EvX W K (tCB (rAll K) (tCons ta tNil)) Γ (.bl (bs.all id)) := v_cbx (a_consx h a_nil) fun G H xs k r Q q => by
  cases r with
  | cons r r0 =>
    cases r0
    obtain ⟨a, vs, rfl, hs, r⟩ := r.lst_inv
    rw [reps_bools r] at hs
    exact ⟨a, bs, rfl, ex_l k.ex hs, q.here k (.bl _) rfl⟩
/-- isinstance(x, T) -/
def tyN : Dat → String
  | .non => "NoneType" | .bl _ => "bool" | .int _ => "int" | .str _ => "str" | .tup _ => "tuple" | .lst _ => "list" | _ => "object"
def typed : Dat → Bool
  | .adr _ => false | .obj _ _ => false | .dct _ => false | .dcs _ => false | _ => true
theorem ty_t {H : Hp} {a : Addr} {xs : List V} (h : SqT K H a xs) : TyX K H (.ref a) (.type "tuple") := by
  rcases h with (h | ⟨o, h⟩) | ⟨o, its, n, h, c, _⟩
  · exact .base (.tup h)
  · exact .fTuple h
  · exact .kTuple h c
theorem ty_l {H : Hp} {a : Addr} {xs : List V} (h : SqL K H a xs) : TyX K H (.ref a) (.type "list") := by
  rcases h with (h | ⟨o, h⟩) | ⟨o, its, n, h, c, _⟩
  · exact .base (.lst h)
  · exact .base (.frz h)
  · exact .kList h c
theorem ty_x {G H : Hp} {v : V} {d : Dat} (e : Ex G H) (ht : typed d = true) (r : Rep K G v d) : TyX K H v (.type (tyN d)) := by
  cases r with
  | non => exact .base .non
  | bl b => exact .base (.bl b)
  | int i => exact .base (.int i)
  | str x => exact .base (.str x)
  | adr a => cases ht
  | tup h _ => exact ty_t (ex_t e h)
  | lst h _ => exact ty_l (ex_l e h)
  | obj _ _ => cases ht
  | dct _ _ => cases ht
  | dcs _ _ => cases ht
theorem v_isi {T : String} {c : Bool} (h : EvX W K ta Γ d) (ht : typed d = true) (hk : PySem.W.kitOne K (.type (tyN d)) (.type T) = some c) : EvX W K (tCB (rIsi K) (tCons ta (tCons (tC (.ty T)) tNil))) Γ (.bl c) := fun σ G H n k Q q =>
  h σ G H n k _ fun v d G2 H2 s e r => by
    subst e
    exact ⟨v, .ty T, _, _, c, rfl, .ty T, ty_x (s.ok k).ex ht r, hk, (q.step s).here (s.ok k) (.bl _) rfl⟩
end
end Ly

set_option maxHeartbeats 2000000
namespace Ly
open PySem L2

/-! ## promises -/
/-- what a def's arguments are, and what its value is -/
abbrev Sig := List Dat → (Dat → Prop) → Prop
def spOf (W : Wd) (K : PySem.W.Frag) (A : Sig) : Sp := fun vs H Q _ => ∃ G ds P, Ok W G H ∧ Reps K G vs ds ∧ A ds P ∧ Go W K G H P Q
theorem spOf_len {W : Wd} {K : PySem.W.Frag} {A : Sig} {n : Nat} (h : ∀ ds P, A ds P → ds.length = n) : ∀ vs H Q E, spOf W K A vs H Q E → vs.length = n := fun vs H Q E ⟨G, ds, P, _, r, a, _⟩ => r.length.trans (h ds P a)

section
variable {W : Wd} {K : PySem.W.Frag} {Γ : List (Option Dat)} {ta tb tc te : TE} {tt tu : TT} {tA : TA} {P R S : Dat → Prop} {a b d e : Dat} {G H G2 H2 : Hp}
/-- a call of a def whose promise is over no world, and over the own one -/
theorem v_call0 {A : Sig} {E : XK} {R : List Dat → Prop} (h : EvA W K tA Γ R) (hs : ∀ ds, R ds → A ds P) : Ev W K (tCall (spOf Wd0 K A) [] E tA) Γ P := fun σ G H n k Q q =>
  h σ G H n k _ fun vs ds G2 H2 s p r => by
    rw [List.append_nil]
    exact ⟨G2, ds, P, (s.ok k).pure, r, hs ds p, fun v d G3 H3 t pd rd => q v d G3 H3 (s.trans (Stp.of0 (s.ok k) t)) pd rd⟩
theorem v_callW {A : Sig} {E : XK} {R : List Dat → Prop} (h : EvA W K tA Γ R) (hs : ∀ ds, R ds → A ds P) : Ev W K (tCall (spOf W K A) [] E tA) Γ P := fun σ G H n k Q q =>
  h σ G H n k _ fun vs ds G2 H2 s p r => by
    rw [List.append_nil]
    exact ⟨G2, ds, P, s.ok k, r, hs ds p, q.step s⟩
theorem v_call0x {A : Sig} {E : XK} {ds : List Dat} (h : EvAX W K tA Γ ds) (hs : A ds P) : Ev W K (tCall (spOf Wd0 K A) [] E tA) Γ P := v_call0 h fun _ e => by rw [e]; exact hs
theorem v_callWx {A : Sig} {E : XK} {ds : List Dat} (h : EvAX W K tA Γ ds) (hs : A ds P) : Ev W K (tCall (spOf W K A) [] E tA) Γ P := v_callW h fun _ e => by rw [e]; exact hs

/-! ## the state of a body -/
/-- a list of the body's own, at l: its items ds -/
structure Own (W : Wd) (K : PySem.W.Frag) (H0 G H : Hp) (l : Addr) (ds : List Dat) : Prop where
  g : G l = none
  h0 : H0 l = none
  m : ¬ W.m l
  at' : ∃ xs, H l = some (.lst xs) ∧ Reps K G xs ds
structure S4 (W : Wd) (K : PySem.W.Frag) (G1 G0 H0 : Hp) (Γ : List (Option Dat)) (O : List (Addr × List Dat)) (σ : L2.St) (G H : Hp) : Prop where
  env : Env K G σ Γ
  ok : Ok W G H
  stp : Stp W G0 H0 G H
  own : ∀ l ds, (l, ds) ∈ O → Own W K H0 G H l ds
  nd : (O.map (·.1)).Nodup
  fr : Ex G1 G
variable {G1 G0 H0 : Hp} {O O' : List (Addr × List Dat)} {σ : L2.St} {D : Ends} {tz ts t1 t2 : TS}
theorem Own.step {l : Addr} {ds : List Dat} (o : Own W K H0 G H l ds) (s : Stp W G H G2 H2) : Own W K H0 G2 H2 l ds := by
  obtain ⟨xs, h1, h2⟩ := o.at'
  refine ⟨?_, o.h0, o.m, xs, s.hh l _ o.m h1, h2.mono s.gg⟩
  cases e : G2 l with
  | none => rfl
  | some u =>
    rcases s.nw l u e with q | q
    · rw [o.g] at q
      cases q
    · rw [h1] at q
      cases q
theorem S4.step (S : S4 W K G1 G0 H0 Γ O σ G H) (s : Stp W G H G2 H2) : S4 W K G1 G0 H0 Γ O σ G2 H2 :=
  ⟨S.env.mono s.gg, s.ok S.ok, S.stp.trans s, fun l ds h => (S.own l ds h).step s, S.nd, S.fr.trans s.gg⟩
theorem S4.weak {Γ' : List (Option Dat)} (w : Wk Γ Γ') (S : S4 W K G1 G0 H0 Γ O σ G H) : S4 W K G1 G0 H0 Γ' O σ G H := ⟨S.env.weak w, S.ok, S.stp, S.own, S.nd, S.fr⟩
theorem S4.set {i : Nat} {v : V} (r : Rep K G v d) (S : S4 W K G1 G0 H0 Γ O σ G H) : S4 W K G1 G0 H0 (Γ.set i (some d)) O (σ.set i (some v)) G H := ⟨S.env.set r, S.ok, S.stp, S.own, S.nd, S.fr⟩
theorem S4.start {N : List Str} {vs : List V} {ds : List Dat} (k : Ok W G H) (r : Reps K G vs ds) : S4 W K G G H (ds.map some ++ List.replicate (N.length - ds.length) Option.none) [] (L2.start N vs) G H :=
  ⟨env_start r, k, Stp.refl k, (fun _ _ h => nomatch h), List.nodup_nil, Ex.refl _⟩

/-! ### statements -/
theorem g_set {i : Nat} (h : Ev W K te Γ P) (S : S4 W K G1 G0 H0 Γ O σ G H) (k : ∀ d σ2 G2 H2, P d → S4 W K G1 G0 H0 (Γ.set i (some d)) O σ2 G2 H2 → D.nx σ2 H2) : tAsg te (gName i) D σ H :=
  h σ G H S.env S.ok _ fun v d G2 H2 s p r => k d _ G2 H2 p ((S.step s).set r)
theorem q_set {i : Nat} (h : Ev W K te Γ P) (S : S4 W K G1 G0 H0 Γ O σ G H) (k : ∀ d σ2 G2 H2, P d → S4 W K G1 G0 H0 (Γ.set i (some d)) O σ2 G2 H2 → tz D σ2 H2) : tSeq (tAsg te (gName i)) tz D σ H := g_set (D := { D with nx := tz D }) h S k
theorem g_setx {i : Nat} (h : EvX W K te Γ d) (S : S4 W K G1 G0 H0 Γ O σ G H) (k : ∀ σ2 G2 H2, S4 W K G1 G0 H0 (Γ.set i (some d)) O σ2 G2 H2 → D.nx σ2 H2) : tAsg te (gName i) D σ H := g_set h S fun d' σ2 G2 H2 e => by
  subst e
  exact k σ2 G2 H2
theorem q_setx {i : Nat} (h : EvX W K te Γ d) (S : S4 W K G1 G0 H0 Γ O σ G H) (k : ∀ σ2 G2 H2, S4 W K G1 G0 H0 (Γ.set i (some d)) O σ2 G2 H2 → tz D σ2 H2) : tSeq (tAsg te (gName i)) tz D σ H := g_setx (D := { D with nx := tz D }) h S k
/-- x = a new list, to be the body's own -/
theorem g_setN {i : Nat} {P : List Dat → Prop} (h : EvN W K te Γ P) (S : S4 W K G1 G0 H0 Γ O σ G H) (k : ∀ l ds σ2 G2 H2, P ds → S4 W K G1 G0 H0 (Γ.set i (some (.adr l))) ((l, ds) :: O) σ2 G2 H2 → D.nx σ2 H2) : tAsg te (gName i) D σ H :=
  h σ G H S.env S.ok _ fun p xs ds G2 H2 s h0 g2 h2 r pd => by
    have S2 := (S.step s).set (i := i) (Rep.adr p)
    refine k p ds _ G2 H2 pd ⟨S2.env, S2.ok, S2.stp, fun l es hm => ?_, ?_, S2.fr⟩
    · rcases List.mem_cons.mp hm with e | hm
      · cases e
        refine ⟨g2, ?_, fun hmm => ?_, xs, h2, r⟩
        · exact (back S.stp h0).1
        · obtain ⟨z, hz⟩ := W.tr S.ok.inv hmm
          rw [hz] at h0
          cases h0
      · exact S2.own l es hm
    · rw [List.map_cons, List.nodup_cons]
      refine ⟨fun hm => ?_, S.nd⟩
      obtain ⟨⟨l, es⟩, h1, e⟩ := List.mem_map.mp hm
      have e : l = p := e
      subst e
      obtain ⟨ys, hy, _⟩ := (S.own _ _ h1).at'
      rw [hy] at h0
      cases h0

theorem q_setN {i : Nat} {P : List Dat → Prop} (h : EvN W K te Γ P) (S : S4 W K G1 G0 H0 Γ O σ G H) (k : ∀ l ds σ2 G2 H2, P ds → S4 W K G1 G0 H0 (Γ.set i (some (.adr l))) ((l, ds) :: O) σ2 G2 H2 → tz D σ2 H2) : tSeq (tAsg te (gName i)) tz D σ H := g_setN (D := { D with nx := tz D }) h S k
theorem g_ret (h : Ev W K te Γ P) (S : S4 W K G1 G0 H0 Γ O σ G H) (k : Go W K G0 H0 P D.rt) : tRet te D σ H :=
  h σ G H S.env S.ok _ fun v d G2 H2 s p r => k v d G2 H2 (S.stp.trans s) p r
theorem g_drop (h : Ev W K te Γ P) (S : S4 W K G1 G0 H0 Γ O σ G H) (k : ∀ G2 H2, S4 W K G1 G0 H0 Γ O σ G2 H2 → D.nx σ H2) : tDrop te D σ H :=
  h σ G H S.env S.ok _ fun v d G2 H2 s p r => k G2 H2 (S.step s)
theorem q_drop (h : Ev W K te Γ P) (S : S4 W K G1 G0 H0 Γ O σ G H) (k : ∀ G2 H2, S4 W K G1 G0 H0 Γ O σ G2 H2 → tz D σ H2) : tSeq (tDrop te) tz D σ H := g_drop (D := { D with nx := tz D }) h S k
theorem g_if {P : Bool → Prop} (h : EvB W K tt Γ P) (S : S4 W K G1 G0 H0 Γ O σ G H) (k1 : P true → ∀ G2 H2, S4 W K G1 G0 H0 Γ O σ G2 H2 → t1 D σ H2) (k2 : P false → ∀ G2 H2, S4 W K G1 G0 H0 Γ O σ G2 H2 → t2 D σ H2) : tIfS tt t1 t2 D σ H :=
  h σ G H S.env S.ok _ fun b G2 H2 s p => by
    cases b with
    | true =>
      show t1 D σ H2
      exact k1 p G2 H2 (S.step s)
    | false =>
      show t2 D σ H2
      exact k2 p G2 H2 (S.step s)
theorem q_if {P : Bool → Prop} (h : EvB W K tt Γ P) (S : S4 W K G1 G0 H0 Γ O σ G H) (k1 : P true → ∀ G2 H2, S4 W K G1 G0 H0 Γ O σ G2 H2 → t1 { D with nx := tz D } σ H2) (k2 : P false → ∀ G2 H2, S4 W K G1 G0 H0 Γ O σ G2 H2 → t2 { D with nx := tz D } σ H2) : tSeq (tIfS tt t1 t2) tz D σ H := g_if (D := { D with nx := tz D }) h S k1 k2
theorem q_when {P : Bool → Prop} (h : EvB W K tt Γ P) (S : S4 W K G1 G0 H0 Γ O σ G H) (k1 : P true → ∀ G2 H2, S4 W K G1 G0 H0 Γ O σ G2 H2 → t1 { D with nx := tz D } σ H2) (k2 : P false → ∀ G2 H2, S4 W K G1 G0 H0 Γ O σ G2 H2 → tz D σ H2) : tSeq (tIfS tt t1 tNext) tz D σ H := g_if (D := { D with nx := tz D }) h S k1 k2
/-- a statement, then the rest from a word between them -/
theorem q_cut {tu : TS} (M : L2.St → Hp → Prop) (h : tu { D with nx := M } σ H) (k : ∀ σ' H', M σ' H' → tz D σ' H') : Evl.tCut tu tz D σ H := ⟨M, h, k⟩

/-! ### own lists -/
/-- the own list is known from now on -/
theorem S4.keepX {l : Addr} {ds : List Dat} {i : Nat} (hi : Γ[i]? = some (some (.adr l))) (S : S4 W K G1 G0 H0 Γ ((l, ds) :: O) σ G H) : ∃ G2, S4 W K G1 G0 H0 (Γ.set i (some (.lst ds))) O σ G2 H ∧ ∃ xs, G2 l = some (.lst xs) ∧ Reps K G2 xs ds := by
  have o := S.own l ds List.mem_cons_self
  obtain ⟨xs, h1, h2⟩ := o.at'
  have gg : Ex G (upd G l (.lst xs)) := Ex.new o.g
  have s : Stp W G0 H0 (upd G l (.lst xs)) H := ⟨S.stp.gg.trans gg, fun a u e => by
      by_cases ea : a = l
      · subst ea
        rw [upd_same] at e
        rw [h1]
        exact e
      · rw [upd_ne ea] at e
        exact S.ok.ex a u e, S.stp.hh, fun a u e => by
      by_cases ea : a = l
      · subst ea
        exact .inr o.h0
      · rw [upd_ne ea] at e
        exact S.stp.nw a u e, S.stp.inv⟩
  refine ⟨upd G l (.lst xs), ⟨?_, ⟨s.gh, s.inv, fun a ha => ?_⟩, s, fun l2 es hm => ?_, ?_, S.fr.trans gg⟩, xs, upd_same, h2.mono gg⟩
  · obtain ⟨v, e1, e2⟩ := S.env.at' i _ hi
    have e3 := e2.adr_inv
    subst e3
    have q : Env K (upd G l (.lst xs)) (σ.set i (some (.ref l))) (Γ.set i (some (.lst ds))) := (S.env.mono gg).set (.lst (l_of upd_same) (h2.mono gg))
    have e4 : σ.set i (some (.ref l)) = σ := by
      apply List.ext_getElem?
      intro j
      by_cases hj : i = j
      · subst hj
        have hlt : i < σ.length := by
          rcases Nat.lt_or_ge i σ.length with q | q
          · exact q
          · rw [List.getElem?_eq_none q] at e1
            cases e1
        rw [List.getElem?_set_self hlt, e1]
      · rw [List.getElem?_set_ne hj]
    rw [e4] at q
    exact q
  · have ne : a ≠ l := fun e => o.m (e ▸ ha)
    rw [upd_ne ne]
    exact S.ok.off a ha
  · have ne : l2 ≠ l := fun e => by
      have nd := S.nd
      rw [List.map_cons, List.nodup_cons] at nd
      subst e
      exact nd.1 (List.mem_map.mpr ⟨(l2, es), hm, rfl⟩)
    have o2 := S.own l2 es (List.mem_cons_of_mem _ hm)
    obtain ⟨ys, y1, y2⟩ := o2.at'
    exact ⟨by rw [upd_ne ne]; exact o2.g, o2.h0, o2.m, ys, y1, y2.mono gg⟩
  · have nd := S.nd
    rw [List.map_cons, List.nodup_cons] at nd
    exact nd.2
theorem S4.keep {l : Addr} {ds : List Dat} {i : Nat} (hi : Γ[i]? = some (some (.adr l))) (S : S4 W K G1 G0 H0 Γ ((l, ds) :: O) σ G H) : ∃ G2, S4 W K G1 G0 H0 (Γ.set i (some (.lst ds))) O σ G2 H := by
  obtain ⟨G2, S2, _⟩ := S4.keepX hi S
  exact ⟨G2, S2⟩
/-- the own list at l is changed -/
theorem S4.put {l : Addr} {ds es : List Dat} {ys : List V} (S : S4 W K G1 G0 H0 Γ ((l, ds) :: O) σ G H) (r : Reps K G ys es) : S4 W K G1 G0 H0 Γ ((l, es) :: O) σ G (upd H l (.lst ys)) := by
  have o := S.own l ds List.mem_cons_self
  obtain ⟨xs, h1, h2⟩ := o.at'
  have eg : Ex G (upd H l (.lst ys)) := fun a u e => by
    rw [upd_ne (ne_of_none e o.g)]
    exact S.ok.ex a u e
  have inv : W.I (upd H l (.lst ys)) := W.loc S.ok.inv fun a ha => upd_ne fun e => o.m (e ▸ ha)
  refine ⟨S.env, ⟨eg, inv, S.ok.off⟩, ⟨S.stp.gg, eg, fun a u hm e => ?_, S.stp.nw, inv⟩, fun l2 zs hm => ?_, S.nd, S.fr⟩
  · rw [upd_ne (ne_of_none e o.h0)]
    exact S.stp.hh a u hm e
  · rcases List.mem_cons.mp hm with e | hm'
    · cases e
      exact ⟨o.g, o.h0, o.m, ys, upd_same, r⟩
    · have ne : l2 ≠ l := fun e => by
        have nd := S.nd
        rw [List.map_cons, List.nodup_cons] at nd
        subst e
        exact nd.1 (List.mem_map.mpr ⟨(l2, zs), hm', rfl⟩)
      have o2 := S.own l2 zs (List.mem_cons_of_mem _ hm')
      obtain ⟨y, y1, y2⟩ := o2.at'
      exact ⟨o2.g, o2.h0, o2.m, y, by rw [upd_ne ne]; exact y1, y2⟩

/-- xs.append(e), xs the own list -/
theorem g_app {l : Addr} {ds : List Dat} (ho : EvX W K ta Γ (.adr l)) (h : Ev W K te Γ P) (S : S4 W K G1 G0 H0 Γ ((l, ds) :: O) σ G H) (hz : ds.length < 100000) (k : ∀ d G2 H2, P d → S4 W K G1 G0 H0 Γ ((l, ds ++ [d]) :: O) σ G2 H2 → D.nx σ H2) :
    tDrop (tBM K "list" rAppend ta (tCons te tNil)) D σ H := ho σ G H S.env S.ok _ fun v d G2 H2 s e r => by
  subst e
  cases r
  have S2 := S.step s
  obtain ⟨xs, h1, _⟩ := (S2.own l ds List.mem_cons_self).at'
  refine ⟨.inl ⟨rfl, xs, l_of h1⟩, ?_⟩
  refine h σ G2 H2 S2.env S2.ok _ fun y dy G3 H3 s3 py ry => ?_
  have S3 := S2.step s3
  obtain ⟨ys, h3, h4⟩ := (S3.own l ds List.mem_cons_self).at'
  refine ⟨l, ys, y, rfl, rfl, h3, by rw [h4.length]; exact sz_lt hz, ?_⟩
  exact k dy G3 _ py (S3.put (h4.append (.cons ry .nil)))
theorem q_app {l : Addr} {ds : List Dat} (ho : EvX W K ta Γ (.adr l)) (h : Ev W K te Γ P) (S : S4 W K G1 G0 H0 Γ ((l, ds) :: O) σ G H) (hz : ds.length < 100000) (k : ∀ d G2 H2, P d → S4 W K G1 G0 H0 Γ ((l, ds ++ [d]) :: O) σ G2 H2 → tz D σ H2) :
    tSeq (tDrop (tBM K "list" rAppend ta (tCons te tNil))) tz D σ H := g_app (D := { D with nx := tz D }) ho h S hz k
/-- x, y = divmod(..) and the like: a tuple of n values is taken apart; the slots js -/
def setsG (Γ : List (Option Dat)) : List Nat → List Dat → List (Option Dat)
  | j :: js, d :: ds => setsG (Γ.set j (some d)) js ds
  | _, _ => Γ
def gNames : List Nat → TGs
  | [] => gNil
  | j :: js => gCons (gName j) (gNames js)
theorem gNames_run {js : List Nat} {Q : L2.St → Hp → Prop} : ∀ {js : List Nat} {xs : List V} {ds : List Dat} {Γ : List (Option Dat)} {σ : L2.St}, Reps K G xs ds → js.length = ds.length → S4 W K G1 G0 H0 Γ O σ G H → (∀ σ2, S4 W K G1 G0 H0 (setsG Γ js ds) O σ2 G H → Q σ2 H) → gNames js xs σ H Q
  | [], _, _, _, _, .nil, _, S, k => ⟨rfl, k _ S⟩
  | j :: js, _, _, _, _, .nil, hl, _, _ => by cases hl
  | [], _, _, _, _, .cons _ _, hl, _, _ => by cases hl
  | j :: js, _, _, _, _, .cons (v := v) (vs := vs) r rs, hl, S, k => ⟨v, vs, rfl, gNames_run (js := js) rs (by simpa using hl) (S.set r) k⟩
theorem g_tup {js : List Nat} {n : Nat} {ds : List Dat} (h : EvX W K te Γ (.tup ds)) (hn : ds.length = n) (hj : js.length = n) (S : S4 W K G1 G0 H0 Γ O σ G H) (k : ∀ σ2 G2 H2, S4 W K G1 G0 H0 (setsG Γ js ds) O σ2 G2 H2 → D.nx σ2 H2) : tAsg te (gTup K n (gNames js)) D σ H :=
  h σ G H S.env S.ok _ fun v d G2 H2 s e r => by
    subst e
    obtain ⟨a, xs, rfl, hs, r⟩ := r.tup_inv
    have S2 := S.step s
    exact ⟨a, xs, rfl, ex_t S2.ok.ex hs, by rw [r.length]; exact hn, gNames_run (js := js) r (hj.trans hn.symm) S2 fun σ2 S3 => k σ2 G2 H2 S3⟩
theorem q_tup {js : List Nat} {n : Nat} {ds : List Dat} (h : EvX W K te Γ (.tup ds)) (hn : ds.length = n) (hj : js.length = n) (S : S4 W K G1 G0 H0 Γ O σ G H) (k : ∀ σ2 G2 H2, S4 W K G1 G0 H0 (setsG Γ js ds) O σ2 G2 H2 → tz D σ2 H2) : tSeq (tAsg te (gTup K n (gNames js))) tz D σ H :=
  g_tup (D := { D with nx := tz D }) h hn hj S k

/-! ### loops: a word of the turn -/
abbrev Word (W : Wd) (K : PySem.W.Frag) (G1 G0 H0 : Hp) (I : List (Option Dat) → List (Addr × List Dat) → Prop) : L2.St → Hp → Prop := fun σ H => ∃ Γ O G, I Γ O ∧ S4 W K G1 G0 H0 Γ O σ G H
theorem g_forR {lo : Int} {n : Nat} {j : Nat} {tb : TS} (I : Nat → List (Option Dat) → List (Addr × List Dat) → Prop) (h0 : I 0 Γ O) (S : S4 W K G1 G0 H0 Γ O σ G H)
    (hs : ∀ (i : Nat) Γ' O' σ' G' H', i < n → I i Γ' O' → S4 W K G1 G0 H0 (Γ'.set j (some (.int (lo + i)))) O' σ' G' H' → tb { D with nx := Word W K G1 G0 H0 (I (i + 1)), ct := Word W K G1 G0 H0 (I (i + 1)), bk := D.nx } σ' H')
    (hd : ∀ Γ' O' σ' G' H', I n Γ' O' → S4 W K G1 G0 H0 Γ' O' σ' G' H' → D.nx σ' H') :
    ∃ W' : Nat → Nat → L2.St → Hp → Prop, (∃ m, W' 0 m σ H) ∧ ∀ i m σ H, W' i m σ H → ((Itr lo n).stop i H ∧ D.nx σ H) ∨ ((Itr lo n).go i H ∧ ∃ N : L2.St → Hp → Prop, (∀ σ' H', N σ' H' → ∃ m', m' < m ∧ W' (i + 1) m' σ' H') ∧ ∀ x H', (Itr lo n).yld i H x H' → gName j x σ H' fun σ2 H2 => tb { D with nx := N, ct := N, bk := D.nx } σ2 H2) :=
  for_range (fun i σ H => Word W K G1 G0 H0 (I i) σ H) ⟨Γ, O, G, h0, S⟩ (fun i σ' H' hi ⟨Γ', O', G', hI, S'⟩ => hs i Γ' O' _ G' H' hi hI (S'.set (.int _))) (fun σ' H' ⟨Γ', O', G', hI, S'⟩ => hd Γ' O' σ' G' H' hI S')
theorem g_for1 {n : Int} {j : Nat} {tb : TS} (h : EvAX W K tA Γ [.int n]) (hn : n ≤ 100000) (S : S4 W K G1 G0 H0 Γ O σ G H) (I : Nat → List (Option Dat) → List (Addr × List Dat) → Prop) (h0 : I 0 Γ O)
    (hs : ∀ (i : Nat) Γ' O' σ' G' H', (i : Int) < n → I i Γ' O' → S4 W K G1 G0 H0 (Γ'.set j (some (.int (i : Int)))) O' σ' G' H' → tb { D with nx := Word W K G1 G0 H0 (I (i + 1)), ct := Word W K G1 G0 H0 (I (i + 1)), bk := D.nx } σ' H')
    (hd : ∀ Γ' O' σ' G' H', I n.toNat Γ' O' → S4 W K G1 G0 H0 Γ' O' σ' G' H' → D.nx σ' H') (hn0 : -100000 ≤ n) : tFor (iRng1 tA) (gName j) tb D σ H :=
  h σ G H S.env S.ok _ fun vs ds G2 H2 s e r => by
    subst e
    cases r with
    | cons r r0 =>
      cases r0
      cases r
      refine ⟨n, rfl, by omega, by omega, g_forR (lo := 0) I h0 (S.step s) (fun i Γ' O' σ' G' H' hi hI S' => ?_) hd⟩
      rw [Int.zero_add] at S'
      exact hs i Γ' O' σ' G' H' (by omega) hI S'
theorem q_for1 {n : Int} {j : Nat} {tb : TS} (h : EvAX W K tA Γ [.int n]) (hn : n ≤ 100000) (S : S4 W K G1 G0 H0 Γ O σ G H) (I : Nat → List (Option Dat) → List (Addr × List Dat) → Prop) (h0 : I 0 Γ O)
    (hs : ∀ (i : Nat) Γ' O' σ' G' H', (i : Int) < n → I i Γ' O' → S4 W K G1 G0 H0 (Γ'.set j (some (.int (i : Int)))) O' σ' G' H' → tb { D with nx := Word W K G1 G0 H0 (I (i + 1)), ct := Word W K G1 G0 H0 (I (i + 1)), bk := tz D } σ' H')
    (hd : ∀ Γ' O' σ' G' H', I n.toNat Γ' O' → S4 W K G1 G0 H0 Γ' O' σ' G' H' → tz D σ' H') (hn0 : -100000 ≤ n) : tSeq (tFor (iRng1 tA) (gName j) tb) tz D σ H :=
  g_for1 (D := { D with nx := tz D }) h hn S I h0 hs hd hn0
theorem S4.base {G2 : Hp} (e : Ex G2 G1) (S : S4 W K G1 G0 H0 Γ O σ G H) : S4 W K G2 G0 H0 Γ O σ G H := ⟨S.env, S.ok, S.stp, S.own, S.nd, e.trans S.fr⟩
theorem S4.here (S : S4 W K G1 G0 H0 Γ O σ G H) : S4 W K G G0 H0 Γ O σ G H := ⟨S.env, S.ok, S.stp, S.own, S.nd, Ex.refl _⟩
/-- over a list, a tuple that is known -/
theorem g_forL {ds : List Dat} {tl : TE} {j : Nat} {tb : TS} (h : EvX W K tl Γ (.lst ds)) (S : S4 W K G1 G0 H0 Γ O σ G H) (I : Nat → List (Option Dat) → List (Addr × List Dat) → Prop) (h0 : I 0 Γ O)
    (hs : ∀ G1 (i : Nat) d Γ' O' σ' G' H', ds[i]? = some d → I i Γ' O' → S4 W K G1 G0 H0 (Γ'.set j (some d)) O' σ' G' H' → tb { D with nx := Word W K G1 G0 H0 (I (i + 1)), ct := Word W K G1 G0 H0 (I (i + 1)), bk := D.nx } σ' H')
    (hd : ∀ Γ' O' σ' G' H', I ds.length Γ' O' → S4 W K G1 G0 H0 Γ' O' σ' G' H' → D.nx σ' H') : tFor (iList K tl) (gName j) tb D σ H :=
  h σ G H S.env S.ok _ fun v d G2 H2 s e r => by
    subst e
    obtain ⟨a, xs, rfl, hx, r⟩ := r.lst_inv
    have S2 := S.step s
    have hl := r.length
    refine ⟨a, rfl, ⟨xs, ex_l S2.ok.ex hx⟩, for_list (fun i σ' H' => Word W K G2 G0 H0 (I i) σ' H') ⟨Γ, O, G2, h0, S2.here⟩ (fun i σ' H' _ ⟨Γ', O', G', _, S'⟩ => ex_l (S'.fr.trans S'.ok.ex) hx) (fun i x σ' H' hi ⟨Γ', O', G', hI, S'⟩ => ?_) (fun σ' H' ⟨Γ', O', G', hI, S'⟩ => hd Γ' O' σ' G' H' (by rw [← hl]; exact hI) (S'.base S2.fr))⟩
    obtain ⟨d, hd', rd⟩ := r.getV hi
    exact hs G2 i d Γ' O' _ G' H' hd' hI (S'.set (rd.mono S'.fr))
theorem q_forL {ds : List Dat} {tl : TE} {j : Nat} {tb : TS} (h : EvX W K tl Γ (.lst ds)) (S : S4 W K G1 G0 H0 Γ O σ G H) (I : Nat → List (Option Dat) → List (Addr × List Dat) → Prop) (h0 : I 0 Γ O)
    (hs : ∀ G1 (i : Nat) d Γ' O' σ' G' H', ds[i]? = some d → I i Γ' O' → S4 W K G1 G0 H0 (Γ'.set j (some d)) O' σ' G' H' → tb { D with nx := Word W K G1 G0 H0 (I (i + 1)), ct := Word W K G1 G0 H0 (I (i + 1)), bk := tz D } σ' H')
    (hd : ∀ Γ' O' σ' G' H', I ds.length Γ' O' → S4 W K G1 G0 H0 Γ' O' σ' G' H' → tz D σ' H') : tSeq (tFor (iList K tl) (gName j) tb) tz D σ H :=
  g_forL (D := { D with nx := tz D }) h S I h0 hs hd
theorem g_forT {ds : List Dat} {tl : TE} {j : Nat} {tb : TS} (h : EvX W K tl Γ (.tup ds)) (S : S4 W K G1 G0 H0 Γ O σ G H) (I : Nat → List (Option Dat) → List (Addr × List Dat) → Prop) (h0 : I 0 Γ O)
    (hs : ∀ G1 (i : Nat) d Γ' O' σ' G' H', ds[i]? = some d → I i Γ' O' → S4 W K G1 G0 H0 (Γ'.set j (some d)) O' σ' G' H' → tb { D with nx := Word W K G1 G0 H0 (I (i + 1)), ct := Word W K G1 G0 H0 (I (i + 1)), bk := D.nx } σ' H')
    (hd : ∀ Γ' O' σ' G' H', I ds.length Γ' O' → S4 W K G1 G0 H0 Γ' O' σ' G' H' → D.nx σ' H') : tFor (iTup K tl) (gName j) tb D σ H :=
  h σ G H S.env S.ok _ fun v d G2 H2 s e r => by
    subst e
    obtain ⟨a, xs, rfl, hx, r⟩ := r.tup_inv
    have S2 := S.step s
    have hl := r.length
    refine ⟨a, rfl, ⟨xs, ex_t S2.ok.ex hx⟩, for_tup (fun i σ' H' => Word W K G2 G0 H0 (I i) σ' H') ⟨Γ, O, G2, h0, S2.here⟩ (fun i σ' H' _ ⟨Γ', O', G', _, S'⟩ => ex_t (S'.fr.trans S'.ok.ex) hx) (fun i x σ' H' hi ⟨Γ', O', G', hI, S'⟩ => ?_) (fun σ' H' ⟨Γ', O', G', hI, S'⟩ => hd Γ' O' σ' G' H' (by rw [← hl]; exact hI) (S'.base S2.fr))⟩
    obtain ⟨d, hd', rd⟩ := r.getV hi
    exact hs G2 i d Γ' O' _ G' H' hd' hI (S'.set (rd.mono S'.fr))
theorem q_forT {ds : List Dat} {tl : TE} {j : Nat} {tb : TS} (h : EvX W K tl Γ (.tup ds)) (S : S4 W K G1 G0 H0 Γ O σ G H) (I : Nat → List (Option Dat) → List (Addr × List Dat) → Prop) (h0 : I 0 Γ O)
    (hs : ∀ G1 (i : Nat) d Γ' O' σ' G' H', ds[i]? = some d → I i Γ' O' → S4 W K G1 G0 H0 (Γ'.set j (some d)) O' σ' G' H' → tb { D with nx := Word W K G1 G0 H0 (I (i + 1)), ct := Word W K G1 G0 H0 (I (i + 1)), bk := tz D } σ' H')
    (hd : ∀ Γ' O' σ' G' H', I ds.length Γ' O' → S4 W K G1 G0 H0 Γ' O' σ' G' H' → tz D σ' H') : tSeq (tFor (iTup K tl) (gName j) tb) tz D σ H :=
  g_forT (D := { D with nx := tz D }) h S I h0 hs hd
/-- a while whose test is known in each turn -/
theorem g_whilex (m0 : Nat) (I : Nat → List (Option Dat) → List (Addr × List Dat) → Prop) (S : S4 W K G1 G0 H0 Γ O σ G H) (h0 : I m0 Γ O)
    (hs : ∀ m Γ' O', I m Γ' O' → ∃ b, EvBX W K tt Γ' b ∧ (b = true → ∀ σ' G' H', S4 W K G1 G0 H0 Γ' O' σ' G' H' → ts { D with nx := fun σ2 H2 => ∃ m', m' < m ∧ Word W K G1 G0 H0 (I m') σ2 H2, ct := fun σ2 H2 => ∃ m', m' < m ∧ Word W K G1 G0 H0 (I m') σ2 H2, bk := D.nx } σ' H') ∧
      (b = false → ∀ σ' G' H', S4 W K G1 G0 H0 Γ' O' σ' G' H' → D.nx σ' H')) : tWhile tt ts D σ H :=
  ⟨fun m σ H => Word W K G1 G0 H0 (I m) σ H, ⟨m0, Γ, O, G, h0, S⟩, fun m σ' H' ⟨Γ', O', G', hI, S'⟩ => by
    obtain ⟨b, hb, h1, h2⟩ := hs m Γ' O' hI
    refine hb σ' G' H' S'.env S'.ok _ fun c G2 H2 s e => ?_
    subst e
    cases c with
    | true => exact ⟨_, fun _ _ z => z, h1 rfl σ' G2 H2 (S'.step s)⟩
    | false => exact h2 rfl σ' G2 H2 (S'.step s)⟩
theorem q_whilex (m0 : Nat) (I : Nat → List (Option Dat) → List (Addr × List Dat) → Prop) (S : S4 W K G1 G0 H0 Γ O σ G H) (h0 : I m0 Γ O)
    (hs : ∀ m Γ' O', I m Γ' O' → ∃ b, EvBX W K tt Γ' b ∧ (b = true → ∀ σ' G' H', S4 W K G1 G0 H0 Γ' O' σ' G' H' → ts { D with nx := fun σ2 H2 => ∃ m', m' < m ∧ Word W K G1 G0 H0 (I m') σ2 H2, ct := fun σ2 H2 => ∃ m', m' < m ∧ Word W K G1 G0 H0 (I m') σ2 H2, bk := tz D } σ' H') ∧
      (b = false → ∀ σ' G' H', S4 W K G1 G0 H0 Γ' O' σ' G' H' → tz D σ' H')) : tSeq (tWhile tt ts) tz D σ H := g_whilex (D := { D with nx := tz D }) m0 I S h0 hs
end
end Ly

set_option maxHeartbeats 2000000
namespace Ly
open PySem L2
section
variable {W : Wd} {K : PySem.W.Frag} {Γ : List (Option Dat)} {ta tb tc te tl : TE} {tt tu : TT} {tA : TA} {P R S : Dat → Prop} {a b d e : Dat} {G H G2 H2 G1 G0 H0 : Hp} {O : List (Addr × List Dat)} {σ : L2.St} {D : Ends} {tz ts t1 t2 : TS}

/-! ## list comprehensions -/
/-- behind i turns: the new list at D -/
def Cm (W : Wd) (K : PySem.W.Frag) (G H : Hp) (D : Addr) (Acc : List Dat → Prop) (H' : Hp) : Prop := ∃ G' xs ds, Stp W G H G' H' ∧ H D = none ∧ G' D = none ∧ H' D = some (.lst xs) ∧ Reps K G' xs ds ∧ Acc ds
/-- one turn -/
abbrev Tn (W : Wd) (K : PySem.W.Frag) (tt : TT) (te : TE) (Γ : List (Option Dat)) (A B : List Dat → Prop) : Prop := ∀ ds, A ds → ds.length < 100000 ∧ ∃ T : Bool → Prop, EvB W K tt Γ T ∧ (T true → Ev W K te Γ fun d => B (ds ++ [d])) ∧ (T false → B ds)
theorem cm_start {Dl : Addr} (k : Ok W G H) (hD : H Dl = none) {A : List Dat → Prop} (h : A []) : Cm W K G H Dl A (upd H Dl (.lst [])) := by
  have gd : G Dl = none := by
    cases e : G Dl with
    | none => rfl
    | some u =>
      rw [k.ex Dl u e] at hD
      cases hD
  exact ⟨G, [], [], Stp.grow k (Ex.new hD), hD, gd, upd_same, .nil, h⟩
theorem cm_turn {Dl : Addr} {A B : List Dat → Prop} {H' : Hp} {σ2 : L2.St} (k : Ok W G H) (hm : ∀ G', Ex G G' → Env K G' σ2 Γ) (p : Cm W K G H Dl A H') (t : Tn W K tt te Γ A B) :
    tt σ2 H' fun b H3 => if b = true then te σ2 H3 fun y H4 => ∃ acc, H4 Dl = some (.lst acc) ∧ acc.length < sizeLine ∧ Cm W K G H Dl B (upd H4 Dl (.lst (acc ++ [y]))) else Cm W K G H Dl B H3 := by
  obtain ⟨G', xs, ds, s, hD, gD, h1, r, ha⟩ := p
  obtain ⟨hl, T, ht, hy, hn⟩ := t ds ha
  have nm : ¬ W.m Dl := fun z => by
    obtain ⟨o, ho⟩ := W.tr k.inv z
    rw [ho] at hD
    cases hD
  have k' := s.ok k
  have keepG : ∀ {G3 H3 : Hp}, Stp W G' H' G3 H3 → G3 Dl = none := fun {G3 H3} s3 => by
    cases e : G3 Dl with
    | none => rfl
    | some u =>
      rcases s3.nw Dl u e with q | q
      · rw [gD] at q
        cases q
      · rw [h1] at q
        cases q
  refine ht σ2 G' H' (hm G' s.gg) k' _ fun b G3 H3 s3 p3 => ?_
  cases b with
  | false =>
    show Cm W K G H Dl B H3
    exact ⟨G3, xs, ds, s.trans s3, hD, keepG s3, s3.hh Dl _ nm h1, r.mono s3.gg, hn p3⟩
  | true =>
    show te σ2 H3 fun y H4 => ∃ acc, H4 Dl = some (.lst acc) ∧ acc.length < sizeLine ∧ Cm W K G H Dl B (upd H4 Dl (.lst (acc ++ [y])))
    refine hy p3 σ2 G3 H3 (hm G3 (s.gg.trans s3.gg)) (s3.ok k') _ fun y d G4 H4 s4 p4 r4 => ?_
    have s34 := s3.trans s4
    have g4 := keepG s34
    have h4 := s34.hh Dl _ nm h1
    refine ⟨xs, h4, by rw [r.length]; exact sz_lt hl, ?_⟩
    have s04 := s.trans s34
    have eg : Ex G4 (upd H4 Dl (.lst (xs ++ [y]))) := fun a u e => by
      rw [upd_ne (ne_of_none e g4)]
      exact s04.gh a u e
    refine ⟨G4, xs ++ [y], ds ++ [d], ⟨s04.gg, eg, fun a u hm e => ?_, s04.nw, W.loc s04.inv fun a ha => upd_ne fun e => nm (e ▸ ha)⟩, hD, g4, upd_same, (r.mono s34.gg).append (.cons r4 .nil), p4⟩
    rw [upd_ne (ne_of_none e hD)]
    exact s04.hh a u hm e
theorem cm_end {Dl : Addr} {A : List Dat → Prop} {H' : Hp} {Q : VK} (p : Cm W K G H Dl A H') (q : ∀ p xs ds G2 H2, Stp W G H G2 H2 → H p = none → G2 p = none → H2 p = some (.lst xs) → Reps K G2 xs ds → A ds → Q (.ref p) H2) : Q (.ref Dl) H' := by
  obtain ⟨G', xs, ds, s, hD, gD, h1, r, ha⟩ := p
  exact q Dl xs ds G' H' s hD gD h1 r ha
theorem wipe1 {σ : L2.St} {j : Nat} {x : Option V} : L2.wipe ((L2.wipe σ [j]).set j x) [j] = L2.wipe σ [j] := by
  show ((σ.set j none).set j x).set j none = σ.set j none
  rw [List.set_set, List.set_set]
theorem env_turn {j : Nat} {v : V} {d : Dat} (h : Env K G σ Γ) (r : Rep K G v d) : Env K G ((L2.wipe σ [j]).set j (some v)) ((wipeG Γ [j]).set j (some d)) := (h.wipe [j]).set r
/-- over range(n) -/
theorem n_lcR {j : Nat} {R : List Dat → Prop} (A : Int → Nat → List Dat → Prop) (h : EvA W K tA Γ fun ds => ∃ n, ds = [.int n] ∧ (-100000 ≤ n ∧ n ≤ 100000) ∧ A n 0 [] ∧ (∀ i : Nat, (i : Int) < n → Tn W K tt te ((wipeG Γ [j]).set j (some (.int (i : Int)))) (A n i) (A n (i + 1))) ∧ ∀ ds, A n n.toNat ds → R ds) :
    EvN W K (tLc (iRng1 tA) (gName j) tt te [j]) Γ R := fun σ G H n k Q q =>
  h σ G H n k _ fun vs ds G2 H2 s ⟨m, e, hm, h0, ht, hR⟩ r => by
    subst e
    cases r with
    | cons r r0 =>
      cases r0
      cases r
      have k2 := s.ok k
      refine ⟨m, rfl, by omega, by omega, fun Dl hD => lc_range (lo := 0) (n := m.toNat) (fun i H' => Cm W K G2 H2 Dl (A m i) H') (cm_start k2 hD h0) (fun i H' hi p => ?_) (fun H' p => ?_)⟩
      · refine ⟨wipe1, ?_⟩
        rw [Int.zero_add]
        exact cm_turn k2 (fun G' e => env_turn (n.mono (s.gg.trans e)) (.int _)) p (ht i (by omega))
      · exact cm_end p fun p xs ds G3 H3 s3 h0 g3 h3 r a => q p xs ds G3 H3 (s.trans s3) (back s h0).1 g3 h3 r (hR ds a)
/-- over a list that is known -/
theorem n_lcL {j : Nat} {R : List Dat → Prop} {us : List Dat} (A : Nat → List Dat → Prop) (h : EvX W K tl Γ (.lst us)) (h0 : A 0 []) (ht : ∀ i d, us[i]? = some d → Tn W K tt te ((wipeG Γ [j]).set j (some d)) (A i) (A (i + 1))) (hR : ∀ ds, A us.length ds → R ds) :
    EvN W K (tLc (iList K tl) (gName j) tt te [j]) Γ R := fun σ G H n k Q q =>
  h σ G H n k _ fun v d G2 H2 s e r => by
    subst e
    obtain ⟨a, xs, rfl, hx, r⟩ := r.lst_inv
    have k2 := s.ok k
    refine ⟨a, rfl, ⟨xs, ex_l k2.ex hx⟩, fun Dl hD => lc_list (xs := xs) (fun i H' => Cm W K G2 H2 Dl (A i) H') (cm_start k2 hD h0) (fun i H' _ p => ?_) (fun i x H' hi p => ?_) (fun H' p => ?_)⟩
    · obtain ⟨G', _, _, s', _⟩ := p
      exact ex_l (s'.gg.trans s'.gh) hx
    · obtain ⟨d, hd, rd⟩ := r.getV hi
      exact ⟨wipe1, cm_turn k2 (fun G' e => env_turn (n.mono (s.gg.trans e)) (rd.mono e)) p (ht i d hd)⟩
    · rw [r.length] at p
      exact cm_end p fun p xs ds G3 H3 s3 h0 g3 h3 r a => q p xs ds G3 H3 (s.trans s3) (back s h0).1 g3 h3 r (hR ds a)
theorem n_lcT {j : Nat} {R : List Dat → Prop} {us : List Dat} (A : Nat → List Dat → Prop) (h : EvX W K tl Γ (.tup us)) (h0 : A 0 []) (ht : ∀ i d, us[i]? = some d → Tn W K tt te ((wipeG Γ [j]).set j (some d)) (A i) (A (i + 1))) (hR : ∀ ds, A us.length ds → R ds) :
    EvN W K (tLc (iTup K tl) (gName j) tt te [j]) Γ R := fun σ G H n k Q q =>
  h σ G H n k _ fun v d G2 H2 s e r => by
    subst e
    obtain ⟨a, xs, rfl, hx, r⟩ := r.tup_inv
    have k2 := s.ok k
    refine ⟨a, rfl, ⟨xs, ex_t k2.ex hx⟩, fun Dl hD => lc_tup (xs := xs) (fun i H' => Cm W K G2 H2 Dl (A i) H') (cm_start k2 hD h0) (fun i H' _ p => ?_) (fun i x H' hi p => ?_) (fun H' p => ?_)⟩
    · obtain ⟨G', _, _, s', _⟩ := p
      exact ex_t (s'.gg.trans s'.gh) hx
    · obtain ⟨d, hd, rd⟩ := r.getV hi
      exact ⟨wipe1, cm_turn k2 (fun G' e => env_turn (n.mono (s.gg.trans e)) (rd.mono e)) p (ht i d hd)⟩
    · rw [r.length] at p
      exact cm_end p fun p xs ds G3 H3 s3 h0 g3 h3 r a => q p xs ds G3 H3 (s.trans s3) (back s h0).1 g3 h3 r (hR ds a)
theorem b_yes : EvB W K tYes Γ (· = true) := fun σ G H n k Q q => q true G H (Stp.refl k) rfl
/-- a turn without a test -/
theorem tn_each {A B : List Dat → Prop} {Γ : List (Option Dat)} (hl : ∀ ds, A ds → ds.length < 100000) (h : ∀ ds, A ds → Ev W K te Γ fun d => B (ds ++ [d])) : Tn W K tYes te Γ A B := fun ds a => ⟨hl ds a, _, b_yes, fun _ => h ds a, fun e => nomatch e⟩
/-- what n turns give, each a P -/
def Each (P : Nat → Dat → Prop) (n : Nat) (ds : List Dat) : Prop := ds.length = n ∧ ∀ i d, ds[i]? = some d → P i d
theorem Each.nil {P : Nat → Dat → Prop} : Each P 0 [] := ⟨rfl, fun _ _ h => by simp at h⟩
theorem Each.add {P : Nat → Dat → Prop} {n : Nat} {ds : List Dat} {d : Dat} (h : Each P n ds) (p : P n d) : Each P (n + 1) (ds ++ [d]) := by
  refine ⟨by rw [List.length_append, h.1]; rfl, fun i u hi => ?_⟩
  by_cases hl : i < ds.length
  · rw [List.getElem?_append_left hl] at hi
    exact h.2 i u hi
  · rw [List.getElem?_append_right (by omega)] at hi
    have hz : i - ds.length = 0 := by
      rcases Nat.eq_zero_or_pos (i - ds.length) with z | z
      · exact z
      · rw [List.getElem?_eq_none (by simp; omega)] at hi
        cases hi
    rw [hz] at hi
    have e : d = u := Option.some.inj hi
    have e2 : i = n := by have := h.1; omega
    rw [← e, e2]
    exact p
theorem tn_P {P : Nat → Dat → Prop} {i : Nat} {Γ : List (Option Dat)} (hi : i < 100000) (h : Ev W K te Γ (P i)) : Tn W K tYes te Γ (Each P i) (Each P (i + 1)) := tn_each (fun ds a => by rw [a.1]; exact hi) fun ds a => h.imp fun d p => a.add p
end
end Ly

set_option maxHeartbeats 2000000
namespace Ly
open PySem L2 PySem.Spec PyProof.Rows HT
/-! ## t[::-1] of a tuple -/
section
variable {prog : Program} {w : World} {A : Around} {E : Value → Shared → Prop} {s : Shared}
theorem adjust_rev (n : Nat) : Builtin.Slice.sliceAdjust none none (-1) (n : Int) = ((n : Int) - 1, -1) := by
  unfold Builtin.Slice.sliceAdjust
  simp
theorem places_rev (n : Nat) : Builtin.Slice.slicePlaces ((n : Int) - 1) (-1) (-1) = n := by
  unfold Builtin.Slice.slicePlaces
  have h1 : ¬ ((-1 : Int) > 0) := by decide
  rw [if_neg h1]
  split
  · have e : ((n : Int) - 1 - -1 - 1) / (- -1) = (n : Int) - 1 := by
      rw [show (- -1 : Int) = 1 by decide, Int.ediv_one]
      omega
    rw [e]
    omega
  · omega
theorem sliceApplied_rev {sl : Addr} {vl vu vs : Value} {n : Nat} {Q : Int × Int × Nat → Shared → Prop} (hs : s.heap.IsSliceOf sl vl vu vs) (pl : IsPart vl none) (pu : IsPart vu none) (ps : IsPart vs (some (-1)))
    (h : Q ((n : Int) - 1, -1, n) s) : wpAny (model prog w) A (Builtin.Slice.sliceApplied (.ref sl) (pure (n : Int))) Q E s := by
  obtain ⟨os, hos, hcs, hds⟩ := id hs
  unfold Builtin.Slice.sliceApplied Builtin.Slice.sliceFields
  refine wpAny_bind (wpAny_bind (wpAny_field hos hds (x := vl) rfl (wpAny_bind (wpAny_field hos hds (x := vu) rfl (wpAny_bind (wpAny_field hos hds (x := vs) rfl (wpAny_pure ?_)))))))
  refine wpAny_bind (slicePart_ ps ?_)
  show wpAny _ _ (if ((-1 : Int) == 0) = true then _ else _) _ _ s
  rw [if_neg (by decide)]
  refine wpAny_bind (slicePart_ pl (wpAny_bind (slicePart_ pu (wpAny_bind (wpAny_pure ?_)))))
  show wpAny _ _ (match Builtin.Slice.sliceAdjust none none (-1) (n : Int) with | (lo, hi) => pure (lo, (-1 : Int), Builtin.Slice.slicePlaces lo hi (-1))) _ _ s
  rw [adjust_rev n]
  show wpAny _ _ (pure ((n : Int) - 1, (-1 : Int), Builtin.Slice.slicePlaces ((n : Int) - 1) (-1) (-1))) _ _ s
  rw [places_rev]
  exact wpAny_pure h
theorem fm_rev (xs : Array Value) : ((List.range xs.size).filterMap fun (m : Nat) => xs[(((xs.size : Nat) : Int) - 1 + (m : Int) * (-1)).toNat]?) = xs.toList.reverse := by
  have e : (fun (m : Nat) => xs[(((xs.size : Nat) : Int) - 1 + (m : Int) * (-1)).toNat]?) = ((fun x => xs[x]?) ∘ fun m => xs.size - 1 - m) := by
    funext m
    have q : (((xs.size : Nat) : Int) - 1 + (m : Int) * (-1)).toNat = xs.size - 1 - m := by omega
    rw [q]
    rfl
  rw [e, ← List.filterMap_map, PySem.W.krv_range, List.filterMap_reverse, PySem.W.krv_all]
theorem getItem_tuple_rev {t sl : Addr} {items : Array Value} {vl vu vs : Value} {Q : Value → Shared → Prop} (ht : IsTup s.heap t items) (hs : s.heap.IsSliceOf sl vl vu vs) (pl : IsPart vl none) (pu : IsPart vu none) (ps : IsPart vs (some (-1)))
    (h : Q (.ref s.heap.objs.size) { s with heap := s.heap.push { cls := .type "tuple", data := .seq items.toList.reverse.toArray } }) (hsz : items.size ≤ sizeLine) : wpAny (model prog w) A (getItem (.ref t) (.ref sl)) Q E s := by
  have htake : sizeOk (.seq items.toList.reverse.toArray) := by
    show items.toList.reverse.toArray.size ≤ sizeLine
    rw [List.size_toArray, List.length_reverse, Array.length_toList]
    exact hsz
  obtain ⟨os, hos, hcs, hds⟩ := id hs
  have hTs : s.TypeIs (.ref sl) "slice" := ⟨os, hos, hcs⟩
  unfold getItem
  try with_reducible refine wpAny_holding ?_
  first | refine wpAny_bind (wpAny_pure ?_) | skip
  refine wpAny_bind (wpAny_sequenceKey ht.typeIs (by decide) ?_)
  refine wpAny_bind (wpAny_callSpecial?_slot (name := Str.ofString "__getitem__") ht.typeIs PyProof.Rows.slot_tuple_getitem
    (wpAny_call_entry PyProof.Rows.slot_tuple_getitem ht.typeIs entry_tuple_getitem ?_ (args_tuple_getitem _ _)))
  show wpAny _ _ (Builtin.Tuple.tupleItemsOf (.ref t) >>= _) _ _ s
  refine wpAny_bind (tupleItemsOf_ ht ?_)
  refine wpAny_bind (wpAny_typeOf hTs ?_)
  rw [if_pos (by decide)]
  refine wpAny_bind (sliceApplied_rev hs pl pu ps ?_)
  have hno : ¬ ((((items.size : Nat) : Int) - 1 == 0 && (-1 : Int) == 1 && items.size == items.size) = true) := by
    intro q
    rw [Bool.and_eq_true, Bool.and_eq_true] at q
    exact absurd q.1.2 (by decide)
  show wpAny _ _ (if (((items.size : Nat) : Int) - 1 == 0 && (-1 : Int) == 1 && items.size == items.size) = true then _ else _) _ _ s
  rw [if_neg hno, fm_rev]
  first
    | exact wpAny_bind (m := Builtin.Tuple.tupleExact _) (wpAny_newObj_type (wpAny_pure ⟨_, rfl, wpAny_pure h⟩) htake)
    | exact wpAny_bind (m := Builtin.Tuple.tupleExact _) (wpAny_newObj_type (wpAny_bind (wpAny_pure (wpAny_pure ⟨_, rfl, wpAny_pure h⟩))) htake)
    | exact wpAny_bind (wpAny_bind (m := Builtin.Tuple.tupleExact _) (wpAny_newObj_type (wpAny_pure (wpAny_pure ⟨_, rfl, wpAny_pure h⟩)) htake))
    | exact wpAny_bind (wpAny_bind (m := Builtin.Tuple.tupleExact _) (wpAny_newObj_type (wpAny_pure ⟨_, rfl, wpAny_pure h⟩) htake))
end
section
variable {X : Cx}
def tRevT (K : PySem.W.Frag) (te : TE) : TE := fun σ H Q => te σ H fun x H1 => ∃ a xs, x = .ref a ∧ SqT K H1 a xs ∧ ∀ p, H1 p = none → Q (.ref p) (upd H1 p (.tup xs.reverse))
theorem pe_revT {e : Expr} {te : TE} {k : Nat} {p1 p2 p3 pos : Pos} (he : PE X e te) : PE X (.Subscript e (.Slice none none (some (.UnaryOp .USub (.Constant (.int 1) k p1) p2)) p3) pos) (tRevT X.K te) := by
  refine ⟨fun pins s σ H Q I h => ?_⟩
  refine Subscript_ (thn (he.run pins s σ H _ I h) fun v s1 ⟨x, H1, I1, r1, q1⟩ => ?_)
  obtain ⟨a, xs, ex, hx, q⟩ := q1
  subst ex
  cases r1
  have hst : PO X (some (.UnaryOp .USub (.Constant (.int 1) k p1) p2)) (tPart (tUn (rU fun i => .int (-i)) (tC (.int 1)))) := po_some (pe_un un_neg pe_int)
  refine wpAny_Slice (thn (po_none.run pins s1 σ H1 (fun o H2 => o = none ∧ H2 = H1) I1 ⟨rfl, rfl⟩) fun vl s2 ⟨l, H2, I2, pl, el, e2⟩ => ?_)
  subst el e2
  refine thn (po_none.run pins s2 σ H2 (fun o H3 => o = none ∧ H3 = H2) I2 ⟨rfl, rfl⟩) fun vu s3 ⟨u, H3, I3, pu, eu, e3⟩ => ?_
  subst eu e3
  refine thn (hst.run pins s3 σ H3 (fun o H4 => o = some (-1) ∧ H4 = H3) I3 ⟨1, rfl, -1, rfl, rfl, rfl⟩) fun vs s4 ⟨o, H4, I4, ps, eo, e4⟩ => ?_
  subst eo e4
  have I5 : Inv X pins σ H4 { s4 with heap := s4.heap.push { cls := .type "slice", data := .fields #[vl, vu, vs] } } := I4.kept (t' := s4.toks) fun b ob q => Heap.get?_push_of_some _ q
  obtain ⟨its, r, ht, hz⟩ := I5.tuple hx
  have hlen := r.length
  show wpAny (model X.prog X.w) X.A (subscriptTail e (.Slice none none (some (.UnaryOp .USub (.Constant (.int 1) k p1) p2)) p3) (.ref a) (.ref s4.heap.objs.size)) (EP X pins σ Q) X.xe { s4 with heap := s4.heap.push { cls := .type "slice", data := .fields #[vl, vu, vs] } }
  refine tail_any (ops := [.ref a, .ref s4.heap.objs.size]) ht.typeIs PyProof.Rows.slot_tuple_getitem.lookup ?_ (by with_unfolding_all rfl)
  refine getItem_tuple_rev ht (Heap.IsSliceOf.new _ vl vu vs) pl pu ps ?_ (by rw [List.size_toArray]; omega)
  refine ⟨.ref _, _, I5.laid (t' := s4.toks) (o := .tup xs.reverse) (fun b ob q => Heap.get?_push_of_some _ q) (Nat.le_refl _) ?_, rfl, q _ (I5.hok.fresh (Nat.le_refl _))⟩
  exact ⟨by rw [List.length_reverse]; exact hz, _, r.reverse, IsTup.new _ _⟩
end
section
variable {W : Wd} {K : PySem.W.Frag} {Γ : List (Option Dat)} {ta tb tc te tl : TE} {tt tu : TT} {tA : TA} {P R S : Dat → Prop} {a b d e : Dat} {G H G2 H2 G1 G0 H0 : Hp} {O : List (Addr × List Dat)} {σ : L2.St} {D : Ends} {tz ts t1 t2 : TS}
theorem v_revT {ds : List Dat} (h : EvX W K te Γ (.tup ds)) : EvX W K (tRevT K te) Γ (.tup ds.reverse) := fun σ G H n k Q q =>
  h σ G H n k _ fun v d G2 H2 s e r => by
    subst e
    obtain ⟨a, xs, rfl, hx, r⟩ := r.tup_inv
    have k2 := s.ok k
    exact ⟨a, xs, rfl, ex_t k2.ex hx, fun p hp => (q.step s) _ _ _ _ (Stp.new k2 hp) rfl (.tup (t_of upd_same) (r.reverse.mono (Stp.new k2 hp (W := W)).gg))⟩
theorem n_revL {ds : List Dat} (h : EvX W K te Γ (.lst ds)) : EvN W K (tRevL K te) Γ (· = ds.reverse) := fun σ G H n k Q q =>
  h σ G H n k _ fun v d G2 H2 s e r => by
    subst e
    obtain ⟨a, xs, rfl, hx, r⟩ := r.lst_inv
    have k2 := s.ok k
    exact ⟨a, xs, rfl, ex_l k2.ex hx, fun l hl => q l xs.reverse _ G2 _ (s.trans (Stp.grow k2 (Ex.new hl))) (back s hl).1 (back s hl).2 upd_same r.reverse rfl⟩
/-- for x in reversed(a tuple) -/
theorem g_forRT {ds : List Dat} {j : Nat} {tb : TS} (h : EvX W K tl Γ (.tup ds)) (S : S4 W K G1 G0 H0 Γ O σ G H) (I : Nat → List (Option Dat) → List (Addr × List Dat) → Prop) (h0 : I 0 Γ O)
    (hs : ∀ G1 (i : Nat) d Γ' O' σ' G' H', i < ds.length → ds[ds.length - 1 - i]? = some d → I i Γ' O' → S4 W K G1 G0 H0 (Γ'.set j (some d)) O' σ' G' H' → tb { D with nx := Word W K G1 G0 H0 (I (i + 1)), ct := Word W K G1 G0 H0 (I (i + 1)), bk := D.nx } σ' H')
    (hd : ∀ Γ' O' σ' G' H', I ds.length Γ' O' → S4 W K G1 G0 H0 Γ' O' σ' G' H' → D.nx σ' H') : tFor (RT.iRevA K tl) (gName j) tb D σ H :=
  h σ G H S.env S.ok _ fun v d G2 H2 s e r => by
    subst e
    obtain ⟨a, xs, rfl, hx, r⟩ := r.tup_inv
    have S2 := S.step s
    have hl := r.length
    refine ⟨a, xs, rfl, .inr ⟨ex_t S2.ok.ex hx, RT.for_ItvT (fun i σ' H' => Word W K G2 G0 H0 (I i) σ' H') ⟨Γ, O, G2, h0, S2.here⟩ (fun i σ' H' ⟨Γ', O', G', _, S'⟩ => ex_t (S'.fr.trans S'.ok.ex) hx) (fun i x σ' H' hi hxi ⟨Γ', O', G', hI, S'⟩ => ?_) (fun σ' H' ⟨Γ', O', G', hI, S'⟩ => hd Γ' O' σ' G' H' (by rw [← hl]; exact hI) (S'.base S2.fr))⟩⟩
    obtain ⟨d, hd', rd⟩ := r.getV hxi
    rw [hl] at hd' hi
    exact hs G2 i d Γ' O' _ G' H' hi hd' hI (S'.set (rd.mono S'.fr))
theorem q_forRT {ds : List Dat} {j : Nat} {tb : TS} (h : EvX W K tl Γ (.tup ds)) (S : S4 W K G1 G0 H0 Γ O σ G H) (I : Nat → List (Option Dat) → List (Addr × List Dat) → Prop) (h0 : I 0 Γ O)
    (hs : ∀ G1 (i : Nat) d Γ' O' σ' G' H', i < ds.length → ds[ds.length - 1 - i]? = some d → I i Γ' O' → S4 W K G1 G0 H0 (Γ'.set j (some d)) O' σ' G' H' → tb { D with nx := Word W K G1 G0 H0 (I (i + 1)), ct := Word W K G1 G0 H0 (I (i + 1)), bk := tz D } σ' H')
    (hd : ∀ Γ' O' σ' G' H', I ds.length Γ' O' → S4 W K G1 G0 H0 Γ' O' σ' G' H' → tz D σ' H') : tSeq (tFor (RT.iRevA K tl) (gName j) tb) tz D σ H := g_forRT (D := { D with nx := tz D }) h S I h0 hs hd
end
/-! ## == of data -/
mutual
def toPy : Dat → PyData
  | .non => .none | .bl b => .bool b | .int i => .int i | .str x => .str x | .tup ds => .tuple (toPys ds) | .lst ds => .list (toPys ds) | .adr _ => .none | .obj _ _ => .none | .dct _ => .none | .dcs _ => .none
def toPys : List Dat → List PyData
  | [] => []
  | d :: ds => toPy d :: toPys ds
end
mutual
/-- data of scalars, tuples, lists, nested at most n deep -/
def Pl : Nat → Dat → Prop
  | _, .non => True
  | _, .bl _ => True
  | _, .int _ => True
  | _, .str x => PyData.strOk x = true
  | _, .adr _ => False
  | _, .obj _ _ => False
  | _, .dct _ => False
  | _, .dcs _ => False
  | 0, .tup _ => False
  | 0, .lst _ => False
  | n + 1, .tup ds => ds.length ≤ 40000 ∧ Pls n ds
  | n + 1, .lst ds => ds.length ≤ 40000 ∧ Pls n ds
def Pls : Nat → List Dat → Prop
  | _, [] => True
  | n, d :: ds => Pl n d ∧ Pls n ds
end
theorem Pls.get {n : Nat} : ∀ {ds : List Dat} {i : Nat} {d : Dat}, Pls n ds → ds[i]? = some d → Pl n d
  | [], _, _, _, h => by simp at h
  | _ :: _, 0, _, p, h => by
    have e := Option.some.inj h
    subst e
    unfold Pls at p
    exact p.1
  | _ :: ds, i + 1, d, p, h => by
    rw [List.getElem?_cons_succ] at h
    unfold Pls at p
    exact Pls.get p.2 h
theorem Pls.ints {n : Nat} : ∀ (ns : List Int), Pls n (ns.map Dat.int)
  | [] => by simp [Pls]
  | x :: ns => by
    rw [List.map_cons, Pls]
    exact ⟨by simp [Pl], Pls.ints ns⟩
theorem Pl.ints {n : Nat} {ns : List Int} (h : ns.length ≤ 40000) : Pl (n + 1) (.tup (ns.map Dat.int)) := by
  rw [Pl]
  exact ⟨by rw [List.length_map]; exact h, Pls.ints ns⟩
mutual
theorem Pl.lay : ∀ (n : Nat) (d : Dat), Pl n d → (toPy d).canLay0 = true
  | _, .non, _ => by simp [toPy, PyData.canLay0]
  | _, .bl _, _ => by simp [toPy, PyData.canLay0]
  | _, .int _, _ => by simp [toPy, PyData.canLay0]
  | n, .str x, h => by
    have h : PyData.strOk x = true := by cases n <;> simpa [Pl] using h
    simp [toPy, PyData.canLay0, h]
  | n, .adr _, h => by cases n <;> simp [Pl] at h
  | n, .obj _ _, h => by cases n <;> simp [Pl] at h
  | n, .dct _, h => by cases n <;> simp [Pl] at h
  | n, .dcs _, h => by cases n <;> simp [Pl] at h
  | 0, .tup _, h => by simp [Pl] at h
  | 0, .lst _, h => by simp [Pl] at h
  | n + 1, .tup ds, h => by
    rw [Pl] at h
    simp only [toPy, PyData.canLay0]
    exact Pls.lay n ds h.2
  | n + 1, .lst ds, h => by
    rw [Pl] at h
    simp only [toPy, PyData.canLay0]
    exact Pls.lay n ds h.2
theorem Pls.lay : ∀ (n : Nat) (d : List Dat), Pls n d → PyData.canLayAll0 (toPys d) = true
  | _, [], _ => by simp [toPys, PyData.canLayAll0]
  | n, d :: ds, h => by
    rw [Pls] at h
    simp only [toPys, PyData.canLayAll0, Pl.lay n d h.1, Pls.lay n ds h.2, Bool.and_self]
end
mutual
theorem Pl.depth : ∀ (n : Nat) (d : Dat), Pl n d → (toPy d).depth ≤ n
  | _, .non, _ => by simp [toPy, PyData.depth]
  | _, .bl _, _ => by simp [toPy, PyData.depth]
  | _, .int _, _ => by simp [toPy, PyData.depth]
  | _, .str x, h => by simp [toPy, PyData.depth]
  | n, .adr _, h => by cases n <;> simp [Pl] at h
  | n, .obj _ _, h => by cases n <;> simp [Pl] at h
  | n, .dct _, h => by cases n <;> simp [Pl] at h
  | n, .dcs _, h => by cases n <;> simp [Pl] at h
  | 0, .tup _, h => by simp [Pl] at h
  | 0, .lst _, h => by simp [Pl] at h
  | n + 1, .tup ds, h => by
    rw [Pl] at h
    simp only [toPy, PyData.depth]
    have := Pls.depth n ds h.2
    omega
  | n + 1, .lst ds, h => by
    rw [Pl] at h
    simp only [toPy, PyData.depth]
    have := Pls.depth n ds h.2
    omega
theorem Pls.depth : ∀ (n : Nat) (d : List Dat), Pls n d → PyData.depthAll (toPys d) ≤ n
  | _, [], _ => by simp [toPys, PyData.depthAll]
  | n, d :: ds, h => by
    rw [Pls] at h
    simp only [toPys, PyData.depthAll]
    have h1 := Pl.depth n d h.1
    have h2 := Pls.depth n ds h.2
    omega
end
theorem Pl.shaped {n : Nat} {d : Dat} (h : Pl n d) (hn : n ≤ 64) : SeqAt.shaped (toPy d) = true := by
  unfold SeqAt.shaped
  rw [h.lay, decide_eq_true (Nat.le_trans h.depth hn)]
  rfl
section
variable {K : PySem.W.Frag} {G H : Hp}
mutual
theorem Rep.dp (e : Ex G H) : ∀ {v : V} {d : Dat} (n : Nat), Pl n d → Rep K G v d → Dp K H v (toPy d)
  | _, _, _, _, .non => .non
  | _, _, _, _, .bl b => .bl b
  | _, _, _, _, .int i => .int i
  | _, _, _, _, .str x => .str x
  | _, _, n, h, .adr _ => by cases n <;> simp [Pl] at h
  | _, _, n, h, .obj _ _ => by cases n <;> simp [Pl] at h
  | _, _, n, h, .dct _ _ => by cases n <;> simp [Pl] at h
  | _, _, n, h, .dcs _ _ => by cases n <;> simp [Pl] at h
  | _, _, 0, h, .tup _ _ => by simp [Pl] at h
  | _, _, 0, h, .lst _ _ => by simp [Pl] at h
  | _, _, n + 1, h, .tup s r => by
    rw [Pl] at h
    simp only [toPy]
    exact .tup (ex_t e s) (Reps.dp e n h.2 r)
  | _, _, n + 1, h, .lst s r => by
    rw [Pl] at h
    simp only [toPy]
    exact .lst (ex_l e s) (Reps.dp e n h.2 r)
theorem Reps.dp (e : Ex G H) : ∀ {v : List V} {d : List Dat} (n : Nat), Pls n d → Reps K G v d → DpAll K H v (toPys d)
  | _, _, _, _, .nil => .nil
  | _, _, n, h, .cons r rs => by
    rw [Pls] at h
    simp only [toPys]
    exact .cons (Rep.dp e n h.1 r) (Reps.dp e n h.2 rs)
end
end
section
variable {W : Wd} {K : PySem.W.Frag} {Γ : List (Option Dat)} {ta tb : TE} {a b : Dat} {n : Nat}
theorem v_eqD (ha : EvX W K ta Γ a) (hb : EvX W K tb Γ b) (pa : Pl n a) (pb : Pl n b) (hn : n ≤ 64) : EvX W K (tOp (rEqD K) ta tb) Γ (.bl (PyData.eqv (toPy a) (toPy b))) := v_opx ha hb fun G H x y k rx ry Q q =>
  ⟨_, _, Rep.dp k.ex n pa rx, Rep.dp k.ex n pb ry, pa.shaped hn, pb.shaped hn, q.here k (.bl _) rfl⟩
theorem v_neD (ha : EvX W K ta Γ a) (hb : EvX W K tb Γ b) (pa : Pl n a) (pb : Pl n b) (hn : n ≤ 64) : EvX W K (tOp (rNeD K) ta tb) Γ (.bl (!PyData.eqv (toPy a) (toPy b))) := v_opx ha hb fun G H x y k rx ry Q q =>
  ⟨_, _, Rep.dp k.ex n pa rx, Rep.dp k.ex n pb ry, pa.shaped hn, pb.shaped hn, q.here k (.bl _) rfl⟩
theorem eqv_same {d : Dat} (h : Pl n d) : PyData.eqv (toPy d) (toPy d) = true := SeqAt.eqv_refl _ h.lay
theorem eqvs_ints : ∀ (ns ms : List Int), PyData.eqvAll (toPys (ns.map Dat.int)) (toPys (ms.map Dat.int)) = decide (ns = ms)
  | [], [] => by simp [toPys, PyData.eqvAll]
  | [], m :: ms => by simp [toPys, PyData.eqvAll]
  | n :: ns, [] => by simp [toPys, PyData.eqvAll]
  | n :: ns, m :: ms => by
    simp only [List.map_cons, toPys, toPy, PyData.eqvAll, PyData.eqv, eqvs_ints ns ms]
    by_cases h : n = m
    · subst h
      simp
    · have : (n == m) = false := by simpa using h
      rw [this]
      simp [h]
theorem eqv_ints (ns ms : List Int) : PyData.eqv (toPy (.tup (ns.map Dat.int))) (toPy (.tup (ms.map Dat.int))) = decide (ns = ms) := by
  simp only [toPy, PyData.eqv]
  exact eqvs_ints ns ms
/-- a tuple's, a list's truth -/
abbrev tTruth (K : PySem.W.Frag) (ta : TE) : TT := fun σ H Q => ta σ H fun x H' => ∃ k, TruV K x H' k ∧ Q k H'
theorem b_truT {ds : List Dat} (h : EvX W K ta Γ (.tup ds)) : EvBX W K (tTruth K ta) Γ (!ds.isEmpty) := fun σ G H n k Q q => h σ G H n k _ fun v d G2 H2 s e r => by
  subst e
  obtain ⟨a, xs, rfl, hx, r⟩ := r.tup_inv
  refine ⟨!xs.isEmpty, .inr (.inl ⟨xs, ex_t (s.ok k).ex hx, rfl⟩), q _ G2 H2 s ?_⟩
  cases r <;> rfl
theorem b_truL {ds : List Dat} (h : EvX W K ta Γ (.lst ds)) : EvBX W K (tTruth K ta) Γ (!ds.isEmpty) := fun σ G H n k Q q => h σ G H n k _ fun v d G2 H2 s e r => by
  subst e
  obtain ⟨a, xs, rfl, hx, r⟩ := r.lst_inv
  refine ⟨!xs.isEmpty, .inl ⟨xs, ex_l (s.ok k).ex hx, rfl⟩, q _ G2 H2 s ?_⟩
  cases r <;> rfl
end
/-! ## the pool of draws -/
/-- the pool at p, its script at c; what stands in it -/
def WQ (p c : Addr) (ns : List Int) (i z k s : Int) : Wd where
  m := fun a => a = p ∨ a = c
  I := fun H => p ≠ c ∧ H c = some (.lst (ns.map V.int)) ∧ H p = some (.lst [.ref c, .int i, .int z, .int k, .int s])
  loc := fun h e => ⟨h.1, by rw [e _ (.inr rfl)]; exact h.2.1, by rw [e _ (.inl rfl)]; exact h.2.2⟩
  tr := fun h hm => by
    rcases hm with rfl | rfl
    · exact ⟨_, h.2.2⟩
    · exact ⟨_, h.2.1⟩
def WP (p c : Addr) (ns : List Int) : Wd where
  m := fun a => a = p ∨ a = c
  I := fun H => p ≠ c ∧ H c = some (.lst (ns.map V.int)) ∧ ∃ i z k s : Int, 0 ≤ i ∧ H p = some (.lst [.ref c, .int i, .int z, .int k, .int s])
  loc := fun h e => ⟨h.1, by rw [e _ (.inr rfl)]; exact h.2.1, by
    obtain ⟨i, z, k, s, h0, h1⟩ := h.2.2
    exact ⟨i, z, k, s, h0, by rw [e _ (.inl rfl)]; exact h1⟩⟩
  tr := fun h hm => by
    rcases hm with rfl | rfl
    · obtain ⟨i, z, k, s, h0, h1⟩ := h.2.2
      exact ⟨_, h1⟩
    · exact ⟨_, h.2.1⟩
section
variable {p c : Addr} {ns : List Int} {i z k s : Int} {K : PySem.W.Frag} {Γ : List (Option Dat)} {ta tb te : TE} {a b d : Dat} {G H G2 H2 G1 G0 H0 : Hp} {O : List (Addr × List Dat)} {σ : L2.St} {D : Ends} {tz : TS} {P : Dat → Prop}
/-- the pool's cells -/
def cellQ (c : Addr) (i z k s : Int) : List Dat := [.adr c, .int i, .int z, .int k, .int s]
def cellV (c : Addr) (i z k s : Int) : List V := [.ref c, .int i, .int z, .int k, .int s]
theorem v_pool {j : Nat} (ha : EvX (WQ p c ns i z k s) K ta Γ (.adr p)) (h : (cellQ c i z k s)[j]? = some d) : EvX (WQ p c ns i z k s) K (tOp (rIxL K) ta (tC (.int (j : Int)))) Γ d :=
  v_opx ha v_int fun G H x y kk rx ry Q q => by
    cases rx
    cases ry
    have hp := kk.inv.2.2
    have r : Reps K G (cellV c i z k s) (cellQ c i z k s) := .cons (.adr c) (.cons (.int i) (.cons (.int z) (.cons (.int k) (.cons (.int s) .nil))))
    obtain ⟨v, h1, h2⟩ := r.get h
    exact ⟨p, cellV c i z k s, (j : Int), v, rfl, rfl, l_of hp, atI_nat h1, q.here kk h2 rfl⟩
theorem v_poolLen (ha : EvX (WQ p c ns i z k s) K ta Γ (.adr c)) : EvX (WQ p c ns i z k s) K (tCB (rLen K) (tCons ta tNil)) Γ (.int (ns.length : Int)) := v_cbx (a_consx ha a_nil) fun G H xs kk r Q q => by
  cases r with
  | cons r r0 =>
    cases r0
    cases r
    exact ⟨c, _, rfl, .inl (l_of kk.inv.2.1), by rw [List.length_map]; exact q.here kk (.int _) rfl⟩
theorem v_poolAt {x : Int} (ha : EvX (WQ p c ns i z k s) K ta Γ (.adr c)) (hb : EvX (WQ p c ns i z k s) K tb Γ (.int i)) (h0 : 0 ≤ i) (h : ns[i.toNat]? = some x) : EvX (WQ p c ns i z k s) K (tOp (rIxL K) ta tb) Γ (.int x) :=
  v_opx ha hb fun G H v w kk rx ry Q q => by
    cases rx
    cases ry
    have e : i = ((i.toNat : Nat) : Int) := by omega
    refine ⟨c, ns.map V.int, i, .int x, rfl, rfl, l_of kk.inv.2.1, ?_, q.here kk (.int _) rfl⟩
    rw [e]
    exact atI_nat (by rw [List.getElem?_map, h]; rfl)
/-- pool[j] = e -/
theorem g_pool {j : Nat} {i' z' k' s' : Int} {x : Int} (h : EvX (WQ p c ns i z k s) K te Γ (.int x)) (ha : EvX (WQ p c ns i z k s) K ta Γ (.adr p)) (S : S4 (WQ p c ns i z k s) K G1 G0 H0 Γ [] σ G H) (hj : j < 5) (he : (cellV c i z k s).set j (.int x) = cellV c i' z' k' s')
    (kk : ∀ G2 H2, S4 (WQ p c ns i' z' k' s') K G1 G0 H0 Γ [] σ G2 H2 → D.nx σ H2) : tAsg te (gSub ta (tC (.int (j : Int))) rSetL) D σ H :=
  h σ G H S.env S.ok _ fun v d G2 H2 st e r => by
    subst e
    cases r
    have S2 := S.step st
    refine ha σ G2 H2 S2.env S2.ok _ fun v d G3 H3 st3 e r => ?_
    subst e
    cases r
    have S3 := S2.step st3
    obtain ⟨n1, n2, n3⟩ := S3.ok.inv
    refine ⟨p, cellV c i z k s, (j : Int), j, rfl, rfl, n3, Evl.ixN_nat hj, ?_⟩
    rw [he]
    have gp : G3 p = none := S3.ok.off p (.inl rfl)
    have eg : Ex G3 (upd H3 p (.lst (cellV c i' z' k' s'))) := fun a u e => by
      rw [upd_ne (ne_of_none e gp)]
      exact S3.ok.ex a u e
    have inv : (WQ p c ns i' z' k' s').I (upd H3 p (.lst (cellV c i' z' k' s'))) := ⟨n1, by rw [upd_ne (Ne.symm n1)]; exact n2, upd_same⟩
    refine kk G3 _ ⟨S3.env, ⟨eg, inv, S3.ok.off⟩, ⟨S3.stp.gg, eg, fun a u hm e => ?_, S3.stp.nw, inv⟩, (fun l ds hm => nomatch hm), List.nodup_nil, S3.fr⟩
    rw [upd_ne (fun q => hm (.inl q))]
    exact S3.stp.hh a u hm e
theorem q_pool {j : Nat} {i' z' k' s' : Int} {x : Int} (h : EvX (WQ p c ns i z k s) K te Γ (.int x)) (ha : EvX (WQ p c ns i z k s) K ta Γ (.adr p)) (S : S4 (WQ p c ns i z k s) K G1 G0 H0 Γ [] σ G H) (hj : j < 5) (he : (cellV c i z k s).set j (.int x) = cellV c i' z' k' s')
    (kk : ∀ G2 H2, S4 (WQ p c ns i' z' k' s') K G1 G0 H0 Γ [] σ G2 H2 → tz D σ H2) : tSeq (tAsg te (gSub ta (tC (.int (j : Int))) rSetL)) tz D σ H := g_pool (D := { D with nx := tz D }) h ha S hj he kk
/-- the same, the value told by what it is -/
theorem g_poolP {j : Nat} (h : Ev (WQ p c ns i z k s) K te Γ fun d => ∃ v, d = .int v) (ha : EvX (WQ p c ns i z k s) K ta Γ (.adr p)) (S : S4 (WQ p c ns i z k s) K G1 G0 H0 Γ [] σ G H) (hj : j = 2)
    (kk : ∀ x G2 H2, S4 (WQ p c ns i x k s) K G1 G0 H0 Γ [] σ G2 H2 → D.nx σ H2) : tAsg te (gSub ta (tC (.int (j : Int))) rSetL) D σ H :=
  h σ G H S.env S.ok _ fun v d G2 H2 st e r => by
    obtain ⟨x, rfl⟩ := e
    cases r
    subst hj
    have S2 := S.step st
    refine g_pool (te := tC (.int x)) (j := 2) v_int ha S2 (by omega) rfl (kk x)
theorem q_of_p (S : S4 (WP p c ns) K G1 G0 H0 Γ [] σ G H) : ∃ i z k s, 0 ≤ i ∧ S4 (WQ p c ns i z k s) K G1 G H Γ [] σ G H := by
  obtain ⟨n1, n2, i, z, k, s, h0, n3⟩ := S.ok.inv
  have k2 : Ok (WQ p c ns i z k s) G H := ⟨S.ok.ex, ⟨n1, n2, n3⟩, S.ok.off⟩
  exact ⟨i, z, k, s, h0, S.env, k2, Stp.refl k2, (fun l ds hm => nomatch hm), List.nodup_nil, S.fr⟩
theorem p_of_q (h0 : 0 ≤ i) (h : Stp (WQ p c ns i z k s) G H G2 H2) : Stp (WP p c ns) G H G2 H2 := ⟨h.gg, h.gh, h.hh, h.nw, ⟨h.inv.1, h.inv.2.1, i, z, k, s, h0, h.inv.2.2⟩⟩
end
end Ly

set_option maxHeartbeats 2000000
namespace Ly
open PySem L2 PySem.Spec PyProof.Rows
/-! ## the defs of the text -/
def Df (K : PySem.W.Frag) (mg : Str → Option Value) (x : Str) (st : Stmt) : Prop := ∃ f fd, Fun K x x st f fd ∧ mg x = some (.ref f)
section
variable {P : Program} {w : World} {K : PySem.W.Frag} {mg : Str → Option Value} {base : Heap}
theorem cal_of {x : Str} {st : Stmt} {N ps : List Str} {k : Nat} {sp : Sp} (D : Df K mg x st)
    (hb : ∀ (kV doc pm : Value) (an : Option Addr) (cdv ct : Value) (us : List Value), us.length = ps.length → bindArgs (PySem.W.fnOf x x (defArgs st) (defBody st) (defScope st) .none kV doc pm an cdv ct) ⟨us, []⟩ = pure (ps.zip us))
    (S : FnScope N ps (defScope st)) (len : ∀ vs H Q E, sp vs H Q E → vs.length = ps.length)
    (hbody : ∀ (f : Addr) (cdv : Value) (A : Around) (outer : List PySem.Env) (s : Shared) (H : Hp) (vs : List V) (Q : VK) (E : XK), Room k (A.deeper (envOfC x (defScope st) s.heap.objs.size f cdv)) → sp vs H Q E →
      ∃ t, PSs (cxOf CX0 P w K mg base N x (defScope st) f cdv A outer s H E).nox (defBody st) t ∧ t { nx := fun _ H' => Q .non H', rt := Q } (L2.start N vs) H) : C8.Cal P w K mg base (k + 1) x sp [] := by
  obtain ⟨f, fd, F, hm⟩ := D
  exact ⟨⟨f, fd, ps, [], F.ok S len (hbody f), hm, F.kp, F.binds hb, .nil⟩⟩
theorem cal_imp {x : Str} {k : Nat} {sp sp' : Sp} (c : C8.Cal P w K mg base k x sp []) (h : ∀ vs H Q E, sp' vs H Q E → sp vs H Q E) : C8.Cal P w K mg base k x sp' [] := by
  obtain ⟨f, fd, ps, ds, F, hm, kp, b, d⟩ := c.ex
  exact ⟨⟨f, fd, ps, ds, F.imp h, hm, kp, b, d⟩⟩
end
section
variable {W : Wd} {K : PySem.W.Frag} {Γ : List (Option Dat)} {ta tb tc te tl : TE} {tt tu : TT} {tA : TA} {d : Dat}
theorem v_cn {v : V} {d : Dat} (h : ∀ G, Rep K G v d) : EvX W K (tC v) Γ d := fun σ G H n k Q q => q.here k (h G) rfl
theorem v_ix0 {ds : List Dat} (ha : EvX W K ta Γ (.tup ds)) (h : ds[0]? = some d) : EvX W K (tOp (rIxT K) ta (tC (.int 0))) Γ d := v_ixT (j := 0) ha v_int rfl h
variable {G1 G0 H0 G H : Hp} {O : List (Addr × List Dat)} {σ : L2.St} {D : Ends} {tz : TS}
theorem g_aug {i : Nat} {f : Int → Int → Int} {a b : Int} (hx : Γ[i]? = some (some (.int a))) (h : EvX W K te Γ (.int b)) (S : S4 W K G1 G0 H0 Γ O σ G H) (k : ∀ σ2 G2 H2, S4 W K G1 G0 H0 (Γ.set i (some (.int (f a b)))) O σ2 G2 H2 → D.nx σ2 H2) : tAug i te (ipI f) D σ H := by
  obtain ⟨v, h1, h2⟩ := S.env.at' i _ hx
  cases h2
  refine ⟨.int a, h1, h σ G H S.env S.ok _ fun y d G2 H2 s e r => ?_⟩
  subst e
  cases r
  exact ⟨a, b, rfl, rfl, k _ G2 H2 ((S.step s).set (.int _))⟩
theorem q_aug {i : Nat} {f : Int → Int → Int} {a b : Int} (hx : Γ[i]? = some (some (.int a))) (h : EvX W K te Γ (.int b)) (S : S4 W K G1 G0 H0 Γ O σ G H) (k : ∀ σ2 G2 H2, S4 W K G1 G0 H0 (Γ.set i (some (.int (f a b)))) O σ2 G2 H2 → tz D σ2 H2) : tSeq (tAug i te (ipI f)) tz D σ H := g_aug (D := { D with nx := tz D }) hx h S k
/-! ## subscripts of lists and tuples alike -/
theorem v_ixDT {ds : List Dat} {i : Int} {j : Nat} (ha : EvX W K ta Γ (.tup ds)) (hb : EvX W K tb Γ (.int i)) (e : i = (j : Int)) (h : ds[j]? = some d) : EvX W K (tOp (rIx K) ta tb) Γ d := v_opx ha (e ▸ hb) fun G H x y k rx ry Q q => .inr (.inl (rv_ixT h G H x y k rx ry Q q))
theorem v_ixDL {ds : List Dat} {i : Int} {j : Nat} (ha : EvX W K ta Γ (.lst ds)) (hb : EvX W K tb Γ (.int i)) (e : i = (j : Int)) (h : ds[j]? = some d) : EvX W K (tOp (rIx K) ta tb) Γ d := v_opx ha (e ▸ hb) fun G H x y k rx ry Q q => .inl (rv_ixL h G H x y k rx ry Q q)
/-- isinstance(x, T) by the data -/
theorem v_is {i : Nat} {T : String} {c : Bool} (h : Γ[i]? = some (some d)) (ht : typed d = true) (hk : kitB (tyN d) T = some c) : EvX W K (tCB (rIsi K) (tCons (tVar i) (tCons (tC (.ty T)) tNil))) Γ (.bl c) := v_isi (v_var h) ht (kit_ty hk)
abbrev rDivmod : List V → Hp → VK → Prop := fun xs H Q => ∃ i j, xs = [.int i, .int j] ∧ CDivP i j ∧ ∀ p, H p = none → Q (.ref p) (upd H p (.tup [.int (i / j), .int (i % j)]))
theorem v_divmod {i j : Int} (ha : EvX W K ta Γ (.int i)) (hb : EvX W K tb Γ (.int j)) (hc : CDivP i j) : EvX W K (tCB rDivmod (tCons ta (tCons tb tNil))) Γ (.tup [.int (i / j), .int (i % j)]) := v_cbx (a_consx ha (a_consx hb a_nil)) fun G H xs k r Q q => by
  cases r with
  | cons r1 r =>
    cases r with
    | cons r2 r =>
      cases r
      cases r1
      cases r2
      exact ⟨i, j, rfl, hc, fun p hp => q _ _ _ _ (Stp.new k hp) rfl (.tup (t_of upd_same) (.cons (.int _) (.cons (.int _) .nil)))⟩
/-! ## the pool of draws: its defs' promises -/
abbrev dI (ns : List Int) : List Dat := ns.map Dat.int
def spPool (K : PySem.W.Frag) : Sp := fun vs H Q _ => ∃ G ns, Ok Wd0 G H ∧ Reps K G vs [.lst (dI ns)] ∧ ns.length ≤ 63 ∧ ∀ p c H2, Ex H H2 → H p = none → H c = none → (WP p c ns).I H2 → Q (.ref p) H2
/-- of a draw: from 0 to many - 1 -/
def Drawn (m : Int) : Dat → Prop := fun d => ∃ v, d = .int v ∧ 0 ≤ v ∧ v < m
def A_draw (p : Addr) : Sig := fun ds P => ∃ m : Int, 0 < m ∧ m < 1000000000 ∧ ds = [.adr p, .int m] ∧ P = Drawn m
def spDraw (K : PySem.W.Frag) : Sp := fun vs H Q E => ∃ p c ns, spOf (WP p c ns) K (A_draw p) vs H Q E
variable {p c : Addr} {ns : List Int} {E : XK}
theorem v_draw {m : Int} (ha : EvX (WP p c ns) K ta Γ (.adr p)) (hb : EvX (WP p c ns) K tb Γ (.int m)) (h0 : 0 < m) (h1 : m < 1000000000) : Ev (WP p c ns) K (tCall (spDraw K) [] E (tCons ta (tCons tb tNil))) Γ (Drawn m) := fun σ G H n k Q q =>
  a_consx ha (a_consx hb a_nil) σ G H n k _ fun vs ds G2 H2 s e r => by
    subst e
    rw [List.append_nil]
    exact ⟨p, c, ns, G2, _, _, s.ok k, r, ⟨m, h0, h1, rfl, rfl⟩, q.step s⟩
theorem g_newpool {i : Nat} (h : EvX Wd0 K ta Γ (.lst (dI ns))) (hl : ns.length ≤ 63) (S : S4 Wd0 K G1 G0 H0 Γ [] σ G H) (k : ∀ p c σ2 G2 H2, S4 (WP p c ns) K G2 G2 H2 (Γ.set i (some (.adr p))) [] σ2 G2 H2 → D.nx σ2 H2) : tAsg (tCall (spPool K) [] E (tCons ta tNil)) (gName i) D σ H := by
  refine a_consx h a_nil σ G H S.env S.ok (fun vs H1 => spPool K (vs ++ []) H1 (fun x H2 => D.nx (σ.set i (some x)) H2) E) fun vs ds G2 H2 s e r => ?_
  · subst e
    rw [List.append_nil]
    have S2 := S.step s
    refine ⟨G2, ns, S2.ok, r, hl, fun p c H3 e hp hc hI => ?_⟩
    have none_of : ∀ {a : Addr}, H2 a = none → G2 a = none := fun {a} ha => by
      cases q : G2 a with
      | none => rfl
      | some u =>
        rw [S2.ok.ex a u q] at ha
        cases ha
    have k2 : Ok (WP p c ns) G2 H3 := ⟨S2.ok.ex.trans e, hI, fun a ha => by
      rcases ha with rfl | rfl
      · exact none_of hp
      · exact none_of hc⟩
    exact k p c _ G2 H3 ⟨S2.env.set (.adr p), k2, Stp.refl k2, (fun _ _ h => nomatch h), List.nodup_nil, Ex.refl _⟩
theorem q_newpool {i : Nat} (h : EvX Wd0 K ta Γ (.lst (dI ns))) (hl : ns.length ≤ 63) (S : S4 Wd0 K G1 G0 H0 Γ [] σ G H) (k : ∀ p c σ2 G2 H2, S4 (WP p c ns) K G2 G2 H2 (Γ.set i (some (.adr p))) [] σ2 G2 H2 → tz D σ2 H2) : tSeq (tAsg (tCall (spPool K) [] E (tCons ta tNil)) (gName i)) tz D σ H := g_newpool (D := { D with nx := tz D }) h hl S k
/-- the promise of the comparing def, for data nested at most n deep -/
def A_like (n : Nat) : Sig := fun ds P => ∃ d, Pl n d ∧ ds = [d, d] ∧ P = (· = .bl true)
def A_spread : Sig := fun ds P => ∃ x : Int, ds = [.int x] ∧ P = fun d => ∃ v, d = .int v
theorem EvN.evx {R : List Dat → Prop} {es : List Dat} (h : EvN W K te Γ R) (i : ∀ ds, R ds → ds = es) : EvX W K te Γ (.lst es) := EvN.ev h fun ds r => by rw [i ds r]
end
theorem kb_bool_bool : kitB "bool" "bool" = some true := by decide +kernel
theorem kb_bool_int : kitB "bool" "int" = some true := by decide +kernel
theorem kb_bool_str : kitB "bool" "str" = some false := by decide +kernel
theorem kb_bool_tuple : kitB "bool" "tuple" = some false := by decide +kernel
theorem kb_bool_list : kitB "bool" "list" = some false := by decide +kernel
theorem kb_int_bool : kitB "int" "bool" = some false := by decide +kernel
theorem kb_int_int : kitB "int" "int" = some true := by decide +kernel
theorem kb_int_str : kitB "int" "str" = some false := by decide +kernel
theorem kb_int_tuple : kitB "int" "tuple" = some false := by decide +kernel
theorem kb_int_list : kitB "int" "list" = some false := by decide +kernel
theorem kb_str_bool : kitB "str" "bool" = some false := by decide +kernel
theorem kb_str_int : kitB "str" "int" = some false := by decide +kernel
theorem kb_str_str : kitB "str" "str" = some true := by decide +kernel
theorem kb_str_tuple : kitB "str" "tuple" = some false := by decide +kernel
theorem kb_str_list : kitB "str" "list" = some false := by decide +kernel
theorem kb_tuple_bool : kitB "tuple" "bool" = some false := by decide +kernel
theorem kb_tuple_int : kitB "tuple" "int" = some false := by decide +kernel
theorem kb_tuple_str : kitB "tuple" "str" = some false := by decide +kernel
theorem kb_tuple_tuple : kitB "tuple" "tuple" = some true := by decide +kernel
theorem kb_tuple_list : kitB "tuple" "list" = some false := by decide +kernel
theorem kb_list_bool : kitB "list" "bool" = some false := by decide +kernel
theorem kb_list_int : kitB "list" "int" = some false := by decide +kernel
theorem kb_list_str : kitB "list" "str" = some false := by decide +kernel
theorem kb_list_tuple : kitB "list" "tuple" = some false := by decide +kernel
theorem kb_list_list : kitB "list" "list" = some true := by decide +kernel
end Ly

set_option maxHeartbeats 2000000
namespace Ly
open PySem L2 PySem.Spec PyProof.Rows
section
variable {W : Wd} {K : PySem.W.Frag} {Γ : List (Option Dat)} {ta tb tc te tl tn : TE} {tt tu : TT} {tA : TA} {P R : Dat → Prop} {d a b : Dat} {G1 G0 H0 G H : Hp} {O : List (Addr × List Dat)} {σ : L2.St} {D : Ends} {tz ts tw : TS}
/-- a call whose value is told by what the promise says of the arguments -/
theorem v_callI {A : Sig} {E : XK} {R : List Dat → Prop} (h : EvA W K tA Γ R) (hs : ∀ ds, R ds → ∃ P', A ds P' ∧ ∀ d, P' d → P d) : Ev W K (tCall (spOf Wd0 K A) [] E tA) Γ P := fun σ G H n k Q q =>
  h σ G H n k _ fun vs ds G2 H2 s p r => by
    rw [List.append_nil]
    obtain ⟨P', h1, h2⟩ := hs ds p
    exact ⟨G2, ds, P', (s.ok k).pure, r, h1, fun v d G3 H3 t pd rd => q v d G3 H3 (s.trans (Stp.of0 (s.ok k) t)) (h2 d pd) rd⟩
/-- an item of a written list at a drawn place -/
theorem v_pick {ds : List Dat} {m : Int} (ha : EvX W K ta Γ (.lst ds)) (hb : Ev W K tb Γ (Drawn m)) (hl : (ds.length : Int) = m) : Ev W K (tOp (rIxL K) ta tb) Γ (fun d => d ∈ ds) := v_op ha hb fun x y ex ⟨v, ey, h0, h1⟩ => by
  subst ex ey
  have hlt : v.toNat < ds.length := by omega
  have hx : ds[v.toNat]? = some ds[v.toNat] := List.getElem?_eq_getElem hlt
  have e : v = ((v.toNat : Nat) : Int) := by omega
  rw [e]
  intro G H x y k rx ry Q q
  exact rv_ixL hx G H x y k rx ry Q fun v d G2 H2 s p r => q v d G2 H2 s (by rw [p]; exact List.getElem_mem hlt) r
theorem v_pickT {ds : List Dat} {m : Int} (ha : EvX W K ta Γ (.tup ds)) (hb : Ev W K tb Γ (Drawn m)) (hl : (ds.length : Int) = m) : Ev W K (tOp (rIxT K) ta tb) Γ (fun d => d ∈ ds) := v_op ha hb fun x y ex ⟨v, ey, h0, h1⟩ => by
  subst ex ey
  have hlt : v.toNat < ds.length := by omega
  have hx : ds[v.toNat]? = some ds[v.toNat] := List.getElem?_eq_getElem hlt
  have e : v = ((v.toNat : Nat) : Int) := by omega
  rw [e]
  intro G H x y k rx ry Q q
  exact rv_ixT hx G H x y k rx ry Q fun v d G2 H2 s p r => q v d G2 H2 s (by rw [p]; exact List.getElem_mem hlt) r
/-- a test upon a drawn number -/
theorem b_drawn {r : R2} {m : Int} {y : Dat} (h : Ev W K ta Γ (Drawn m)) (hb : EvX W K tb Γ y) (hr : ∀ v, 0 ≤ v → v < m → ∃ c, RV W K r (.int v) y (· = .bl c)) : EvB W K (tTest (tOp r ta tb)) Γ fun _ => True :=
  b_test (v_op h hb fun x z ⟨v, e, h0, h1⟩ ez => by
    subst e ez
    obtain ⟨c, hc⟩ := hr v h0 h1
    intro G H x y k rx ry Q q
    exact hc G H x y k rx ry Q fun v d G2 H2 s p r => q v d G2 H2 s ⟨c, p, trivial⟩ r)
theorem b_drawnEq {m j : Int} (h : Ev W K ta Γ (Drawn m)) (hb : EvX W K tb Γ (.int j)) : EvB W K (tTest (tOp rEq ta tb)) Γ fun _ => True := b_drawn h hb fun v _ _ => ⟨_, rv_eq rfl rfl rfl⟩
theorem b_drawnNe {m j : Int} (h : Ev W K ta Γ (Drawn m)) (hb : EvX W K tb Γ (.int j)) : EvB W K (tTest (tOp rNe ta tb)) Γ fun _ => True := b_drawn h hb fun v _ _ => ⟨_, rv_ne rfl rfl rfl⟩
theorem b_drawnGt {m j : Int} (h : Ev W K ta Γ (Drawn m)) (hb : EvX W K tb Γ (.int j)) : EvB W K (tTest (tOp (rI0 fun i j => .bl (decide (j < i))) ta tb)) Γ fun _ => True := b_drawn h hb fun v _ _ => ⟨_, rv_I0 (g := fun i j => .bl (decide (j < i))) fun _ => .bl _⟩
theorem b_drawnLt {m j : Int} (h : Ev W K ta Γ (Drawn m)) (hb : EvX W K tb Γ (.int j)) : EvB W K (tTest (tOp (rI0 fun i j => .bl (decide (i < j))) ta tb)) Γ fun _ => True := b_drawn h hb fun v _ _ => ⟨_, rv_I0 (g := fun i j => .bl (decide (i < j))) fun _ => .bl _⟩
/-- lists of drawn numbers -/
def InB (b : Int) (ns : List Int) : Prop := ∀ x ∈ ns, 0 ≤ x ∧ x < b
theorem each_drawn {b : Int} : ∀ {ds : List Dat} {n : Nat}, Each (fun _ => Drawn b) n ds → ∃ ns, ds = dI ns ∧ ns.length = n ∧ InB b ns := fun {ds n} h => by
  have hh : ∀ d ∈ ds, Drawn b d := fun d hd => by
    obtain ⟨i, hi, e⟩ := List.getElem_of_mem hd
    exact h.2 i d (by rw [List.getElem?_eq_getElem hi, e])
  have hl := h.1
  clear h
  induction ds generalizing n with
  | nil => exact ⟨[], rfl, hl, fun x hx => by cases hx⟩
  | cons d ds ih =>
    obtain ⟨v, rfl, h0, h1⟩ := hh d List.mem_cons_self
    obtain ⟨ns, e, e2, e3⟩ := ih (n := ds.length) (fun d hd => hh d (List.mem_cons_of_mem _ hd)) rfl
    refine ⟨v :: ns, by rw [e]; rfl, by rw [List.length_cons, e2, ← hl, List.length_cons], fun x hx => ?_⟩
    rcases List.mem_cons.mp hx with rfl | hx
    · exact ⟨h0, h1⟩
    · exact e3 x hx
theorem n_lcD {j : Nat} {b m : Int} (hn : Ev W K tn Γ (Drawn m)) (hm : m ≤ 10000) (he : ∀ i : Nat, Ev W K te ((wipeG Γ [j]).set j (some (.int (i : Int)))) (Drawn b)) :
    EvN W K (tLc (iRng1 (tCons tn tNil)) (gName j) tYes te [j]) Γ fun ds => ∃ ns, ds = dI ns ∧ (ns.length : Int) < m ∧ InB b ns :=
  n_lcR (fun _ i ds => Each (fun _ => Drawn b) i ds) (EvA.imp (a_cons hn a_nil) fun ds ⟨d, r, e, ⟨v, ed, h0, h1⟩, er⟩ => ⟨v, by rw [e, ed, er], ⟨by omega, by omega⟩, Each.nil, fun i hi => tn_P (by omega) (he i), fun ds h => by
    obtain ⟨ns, h2, h3, h4⟩ := each_drawn h
    exact ⟨ns, h2, by omega, h4⟩⟩)
/-- many draws -/
theorem n_lcE {j : Nat} {b m : Int} (hn : EvX W K tn Γ (.int m)) (h0 : 0 ≤ m) (hm : m ≤ 10000) (he : ∀ i : Nat, Ev W K te ((wipeG Γ [j]).set j (some (.int (i : Int)))) (Drawn b)) :
    EvN W K (tLc (iRng1 (tCons tn tNil)) (gName j) tYes te [j]) Γ fun ds => ∃ ns, ds = dI ns ∧ (ns.length : Int) = m ∧ InB b ns :=
  n_lcR (fun _ i ds => Each (fun _ => Drawn b) i ds) (EvA.imp (a_cons hn a_nil) fun ds ⟨d, r, e, ed, er⟩ => ⟨m, by rw [e, ed, er], ⟨by omega, by omega⟩, Each.nil, fun i hi => tn_P (by omega) (he i), fun ds h => by
    obtain ⟨ns, h2, h3, h4⟩ := each_drawn h
    exact ⟨ns, h2, by omega, h4⟩⟩)
/-- range(n), n told by what it is -/
theorem g_for1P {R : Int → Prop} {j : Nat} {tb : TS} (h : EvA W K tA Γ fun ds => ∃ n, ds = [.int n] ∧ R n) (hn : ∀ n, R n → -100000 ≤ n ∧ n ≤ 100000) (S : S4 W K G1 G0 H0 Γ O σ G H) (I : Nat → List (Option Dat) → List (Addr × List Dat) → Prop) (h0 : I 0 Γ O)
    (hs : ∀ n (i : Nat) Γ' O' σ' G' H', R n → (i : Int) < n → I i Γ' O' → S4 W K G1 G0 H0 (Γ'.set j (some (.int (i : Int)))) O' σ' G' H' → tb { D with nx := Word W K G1 G0 H0 (I (i + 1)), ct := Word W K G1 G0 H0 (I (i + 1)), bk := D.nx } σ' H')
    (hd : ∀ n Γ' O' σ' G' H', R n → I n.toNat Γ' O' → S4 W K G1 G0 H0 Γ' O' σ' G' H' → D.nx σ' H') : tFor (iRng1 tA) (gName j) tb D σ H :=
  h σ G H S.env S.ok _ fun vs ds G2 H2 s ⟨n, e, hR⟩ r => by
    subst e
    have hb := hn n hR
    cases r with
    | cons r r0 =>
      cases r0
      cases r
      refine ⟨n, rfl, by omega, by omega, g_forR (lo := 0) I h0 (S.step s) (fun i Γ' O' σ' G' H' hi hI S' => ?_) (fun Γ' O' σ' G' H' hI S' => hd n Γ' O' σ' G' H' hR hI S')⟩
      rw [Int.zero_add] at S'
      exact hs n i Γ' O' σ' G' H' hR (by omega) hI S'
theorem q_for1P {R : Int → Prop} {j : Nat} {tb : TS} (h : EvA W K tA Γ fun ds => ∃ n, ds = [.int n] ∧ R n) (hn : ∀ n, R n → -100000 ≤ n ∧ n ≤ 100000) (S : S4 W K G1 G0 H0 Γ O σ G H) (I : Nat → List (Option Dat) → List (Addr × List Dat) → Prop) (h0 : I 0 Γ O)
    (hs : ∀ n (i : Nat) Γ' O' σ' G' H', R n → (i : Int) < n → I i Γ' O' → S4 W K G1 G0 H0 (Γ'.set j (some (.int (i : Int)))) O' σ' G' H' → tb { D with nx := Word W K G1 G0 H0 (I (i + 1)), ct := Word W K G1 G0 H0 (I (i + 1)), bk := tz D } σ' H')
    (hd : ∀ n Γ' O' σ' G' H', R n → I n.toNat Γ' O' → S4 W K G1 G0 H0 Γ' O' σ' G' H' → tz D σ' H') : tSeq (tFor (iRng1 tA) (gName j) tb) tz D σ H := g_for1P (D := { D with nx := tz D }) h hn S I h0 hs hd
mutual
theorem Pl.up : ∀ {n : Nat} {d : Dat}, Pl n d → Pl (n + 1) d
  | n, .non, _ => by simp [Pl]
  | n, .bl _, _ => by simp [Pl]
  | n, .int _, _ => by simp [Pl]
  | n, .str x, h => by
    have h : PyData.strOk x = true := by cases n <;> simpa [Pl] using h
    simpa [Pl] using h
  | n, .adr _, h => by cases n <;> simp [Pl] at h
  | n, .obj _ _, h => by cases n <;> simp [Pl] at h
  | n, .dct _, h => by cases n <;> simp [Pl] at h
  | n, .dcs _, h => by cases n <;> simp [Pl] at h
  | 0, .tup _, h => by simp [Pl] at h
  | 0, .lst _, h => by simp [Pl] at h
  | n + 1, .tup ds, h => by
    rw [Pl] at h ⊢
    exact ⟨h.1, Pls.up h.2⟩
  | n + 1, .lst ds, h => by
    rw [Pl] at h ⊢
    exact ⟨h.1, Pls.up h.2⟩
theorem Pls.up : ∀ {n : Nat} {d : List Dat}, Pls n d → Pls (n + 1) d
  | _, [], _ => by simp [Pls]
  | n, d :: ds, h => by
    rw [Pls] at h ⊢
    exact ⟨Pl.up h.1, Pls.up h.2⟩
end
/-! ## the law's own promise -/
def spLaw (K : PySem.W.Frag) : Sp := fun vs H Q _ => ∃ (a : Addr) (ns : List Int), vs = [.ref a] ∧ SqL K H a (ns.map V.int) ∧ ns.length ≤ 63 ∧ ∀ H', Q (.bl true) H'
theorem law_start {vs : List V} {a : Addr} {ns : List Int} {N : List Str} (e : vs = [.ref a]) (h : SqL K H a (ns.map V.int)) : S4 Wd0 K H H H ([.lst (dI ns)].map some ++ List.replicate (N.length - [Dat.lst (dI ns)].length) Option.none) [] (L2.start N vs) H H := by
  subst e
  exact S4.start ⟨Ex.refl H, trivial, fun _ h => h.elim⟩ (.cons (.lst h (Reps.of_ints ns)) .nil)
theorem go_true {Q : VK} (h : ∀ H', Q (.bl true) H') : Go W K G H (· = .bl true) Q := fun v d G2 H2 s e r => by
  subst e
  cases r
  exact h H2
end
end Ly

set_option maxHeartbeats 4000000
namespace Ly
open PySem L2 PySem.Spec PyProof.Rows
/-! ## own classes: ==, !=, fields, isinstance -/
theorem ns_some_of {K : PySem.W.Frag} {h : Heap} {N : Addr} {mg : Str → Option Value} {n : Str} {v : Value} (X : K.In h) (G : h.Ns N mg) (e : PySem.W.nsIn K N n = some (some v)) : mg n = some v := by
  obtain ⟨o, es, ep, ho, hd, _, hf⟩ := G
  unfold PySem.W.nsIn at e
  split at e
  · rename_i c d es' n' sl q
    have := X _ _ q
    rw [ho] at this
    cases this
    cases hd
    split at e
    · rename_i en he
      cases e
      rw [← hf]
      unfold nsFind findBy
      rw [← Array.find?_toList, he]
      rfl
    · split at e <;> cases e
  · cases e
/-- a plain class of the text, with an own ==, at C -/
structure ClsQ (K : PySem.W.Frag) (C f : Addr) : Prop where
  cls : Cls K C
  eq : PySem.W.findIn K (.ref C) "__eq__" = some (some (.ref f))
  fn : PySem.W.isFn K (.ref f) = true
  obj : ∃ (nm q : Str) (N : Addr) (bs : List Value) (sn : List Str) (sub : List Value) (ab : Bool) (col : Option Bool) (dd : Option Addr) (k0 k1 k2 k3 k5 : Option Value) (newId : String),
    K.lookup C = some (excClassObj nm q C N bs [.type "object"] true sn sub ab col dd k0 k1 k2 k3 k5 newId) ∧ PySem.W.nsOkIn K N = true ∧ PySem.W.nsIn K N "__eq__" = some (some (.ref f)) ∧ PySem.W.nsIn K N "__ne__" = some none
  ha : PySem.W.findIn K (.ref C) "__class__" = some (some (.builtin "object.__class__"))
  hn : PySem.W.specialIn K (.builtin "object.__class__") "__get__" = some (some (.builtin "getset_descriptor.__get__"))
  ht : PySem.W.takesIn K (.builtin "object.__class__") = some true
  hm : PySem.W.mroIn K C (.type "object") = some true
section
variable {X : Cx} {C f : Addr} {fd : FuncData} {ps : List Str} {sp : Sp} {n : Nat}
def rEqOwn (C : Addr) (sp : Sp) (neg : Bool) : R2 := fun x y H Q => ∃ a b dx dy fs gs, x = .ref a ∧ y = .ref b ∧ H a = some (.ins C dx fs) ∧ H b = some (.ins C dy gs) ∧ sp [x, y] H (fun v H' => ∃ c, v = .bl c ∧ Q (.bl (if neg then !c else c)) H') E0
theorem eq_run (F : FnOk X.prog X.w X.K X.mg X.base CX0 n f fd ps sp) (hb : Binds X.K fd ps []) {A : Around} (hr : Room n A) (hf : A.frames = X.A.frames) {pins : List (Addr × Obj)} {s : Shared} {σ : L2.St} {H : Hp} {a b : Addr} {Q : VK} {E : Value → Shared → Prop} (I : Inv X pins σ H s) (h : sp [.ref a, .ref b] H Q E0) :
    wpAny (model X.prog X.w) A (call (.ref f) [.ref a, .ref b]) (EP X pins σ Q) E s := by
  have e0 : Env0 X.prog X.w X.K X.mg X.base A X.stack s H := by
    have e := I.env0
    exact ⟨by rw [hf]; exact e.frames, e.mod, e.bs, e.bsz, e.funs, e.frf, e.hok, e.bare⟩
  have hl := F.len _ _ _ _ h
  have r2 : Vals [V.ref a, V.ref b] [Value.ref a, Value.ref b] := .cons rfl (.cons rfl .nil)
  refine wpAny_call (codeAny_mono (F.run A X.stack s H ⟨[.ref a, .ref b], []⟩ [.ref a, .ref b] [.ref a, .ref b] _ E0 hr e0 (by
    have := hb s [.ref a, .ref b] I.kIn (by simpa using hl)
    simpa using this) r2 h) fun r s' hq => ?_)
  cases r with
  | error e => exact False.elim hq
  | ok fl =>
    cases fl with
    | ret w => exact I.after hq
    | next => exact False.elim hq
    | brk => exact False.elim hq
    | cont => exact False.elim hq
theorem op_eqOwn (F : FnOk X.prog X.w X.K X.mg X.base CX0 n f fd ps sp) (q : ClsQ X.K C f) (hb : Binds X.K fd ps []) (hr : Room n X.A) : OpR X (compareOp .Eq) (rEqOwn C sp false) := by
  intro pins s σ H x y u v Q I rx ry ⟨a, b, dx, dy, fs, gs, ex, ey, ha, hb', hs⟩
  subst ex ey
  cases rx
  cases ry
  obtain ⟨mA, J, _⟩ := ins_get I.hok ha
  obtain ⟨mB, J', _⟩ := ins_get I.hok hb'
  obtain ⟨od, J, _⟩ := J.look
  obtain ⟨od', J', _⟩ := J'.look
  obtain ⟨m, hF⟩ := I.fr
  show wpAny (model X.prog X.w) X.A (richCompare .Eq (.ref a) (.ref b)) (EP X pins σ Q) X.xe s
  refine PySem.W.cmp_K (op := .Eq) (tb := .ref C) hr.units0 hF I.ok.mod.kin J J'.type (by simp [PySem.W.notFirst]) q.eq q.fn ?_
  refine wpAny_mono (eq_run F hb hr rfl I hs) (fun r s' hq => ?_) fun _ _ x => x
  obtain ⟨z, H', I', rz, c, ez, hq⟩ := hq
  subst ez
  cases rz
  exact ⟨.bl c, H', I', rfl, hq⟩
theorem op_neOwn (F : FnOk X.prog X.w X.K X.mg X.base CX0 n f fd ps sp) (q : ClsQ X.K C f) (hb : Binds X.K fd ps []) (hr : Room (n + 1) X.A) : OpR X (compareOp .NotEq) (rEqOwn C sp true) := by
  intro pins s σ H x y u v Q I rx ry ⟨a, b, dx, dy, fs, gs, ex, ey, ha, hb', hs⟩
  subst ex ey
  cases rx
  cases ry
  obtain ⟨nm, qn, N, bs, sn, sub, ab, col, dd, k0, k1, k2, k3, k5, newId, hC, hN, he, hne⟩ := q.obj
  have X0 := I.kIn
  obtain ⟨of, hfo, hfc⟩ : ∃ of, s.heap.get? f = some of ∧ of.cls = .type "function" := by
    have e := q.fn
    unfold PySem.W.isFn PySem.W.typeIn at e
    have e : (X.K.lookup f).map (·.cls) = some (.type "function") := eq_of_beq e
    cases z : X.K.lookup f with
    | none =>
      rw [z] at e
      cases e
    | some o =>
      rw [z] at e
      exact ⟨o, X0 _ _ z, Option.some.inj e⟩
  obtain ⟨_, _, _, ea, _⟩ := (show ObjOk X.prog X.w H s.heap a (.ins C dx fs) from I.hok a _ ha)
  obtain ⟨_, _, _, eb, _⟩ := (show ObjOk X.prog X.w H s.heap b (.ins C dy gs) from I.hok b _ hb')
  have G := Heap.Ns.of_isNs (PySem.W.isNs_of_in X0 hN)
  have Y : s.heap.OwnEqNoNe a C f "object" [.type "object"] :=
    ⟨_, of, nm, qn, N, bs, true, sn, sub, ab, col, dd, k0, k1, k2, k3, k5, newId, _, _, ea, rfl, X0 _ _ hC, G, ns_some_of X0 G he, hfo, hfc, PySem.F.cmp_object.mro, PySem.F.cmp_object.eq.lookup, PySem.W.ns_none_of X0 G hne⟩
  obtain ⟨hh, g, d, t, os⟩ := s
  refine compareOp_ne_ownEq PySem.F.cmp_object Y eb rfl (by have := hr.units; omega) ?_
  refine wpAny_mono (eq_run F hb hr.in1 rfl I hs) (fun r s' hq => ?_) fun _ _ x => x
  obtain ⟨z, H', I', rz, c, ez, hq⟩ := hq
  subst ez
  cases rz
  exact ⟨c, rfl, .bl (!c), H', I', rfl, hq⟩
end
end Ly

set_option maxHeartbeats 4000000
namespace Ly
open PySem L2 PySem.Spec PyProof.Rows
/-! ## data without lists: an own list may be known for a while -/
mutual
def NL : Dat → Prop
  | .non => True
  | .bl _ => True
  | .int _ => True
  | .str _ => True
  | .adr _ => True
  | .tup ds => NLs ds
  | .lst _ => False
  | .obj _ fs => NLf fs
  | .dct es => NLd es
  | .dcs es => NLk es
def NLs : List Dat → Prop
  | [] => True
  | d :: ds => NL d ∧ NLs ds
def NLf : List (Str × Dat) → Prop
  | [] => True
  | (_, d) :: ds => NL d ∧ NLf ds
def NLd : List (List Key × Dat) → Prop
  | [] => True
  | (_, d) :: ds => NL d ∧ NLd ds
def NLk : List (Key × Dat) → Prop
  | [] => True
  | (_, d) :: ds => NL d ∧ NLk ds
end
def del (G : Hp) (l : Addr) : Hp := fun a => if a = l then none else G a
theorem del_ne {G : Hp} {l a : Addr} (h : a ≠ l) : del G l a = G a := by
  unfold del
  rw [if_neg h]
theorem del_same {G : Hp} {l : Addr} : del G l l = none := by
  unfold del
  rw [if_pos rfl]
section
variable {K : PySem.W.Frag} {G : Hp} {l : Addr} {xl : List V}
theorem sqt_del {a : Addr} {xs : List V} (hl : G l = some (.lst xl)) (h : SqT K G a xs) : SqT K (del G l) a xs := by
  rcases h with (h | ⟨o, h⟩) | h
  · refine .inl (.inl ?_)
    rw [del_ne (ne_of h hl (by intro z; cases z))]
    exact h
  · refine .inl (.inr ⟨o, ?_⟩)
    rw [del_ne (ne_of h hl (by intro z; cases z))]
    exact h
  · exact .inr h
mutual
theorem Rep.thaw (hl : G l = some (.lst xl)) : ∀ {v : V} {d : Dat}, NL d → Rep K G v d → Rep K (del G l) v d
  | _, _, _, .non => .non
  | _, _, _, .bl b => .bl b
  | _, _, _, .int i => .int i
  | _, _, _, .str x => .str x
  | _, _, _, .adr a => .adr a
  | _, _, n, .tup h r => by
    rw [NL] at n
    exact .tup (sqt_del hl h) (Reps.thaw hl n r)
  | _, _, n, .lst h r => by
    rw [NL] at n
    exact n.elim
  | _, _, n, .obj h r => by
    rw [NL] at n
    refine .obj (G := del G l) (by rw [del_ne (ne_of h hl (by intro z; cases z))]; exact h) (Flds.thaw hl n r)
  | _, _, n, .dct h r => by
    rw [NL] at n
    refine .dct (G := del G l) (by rw [del_ne (ne_of h hl (by intro z; cases z))]; exact h) (Dcts.thaw hl n r)
  | _, _, n, .dcs h r => by
    rw [NL] at n
    refine .dcs (G := del G l) (by rw [del_ne (ne_of h hl (by intro z; cases z))]; exact h) (Dcks.thaw hl n r)
theorem Reps.thaw (hl : G l = some (.lst xl)) : ∀ {v : List V} {d : List Dat}, NLs d → Reps K G v d → Reps K (del G l) v d
  | _, _, _, .nil => .nil
  | _, _, n, .cons h r => by
    rw [NLs] at n
    exact .cons (Rep.thaw hl n.1 h) (Reps.thaw hl n.2 r)
theorem Flds.thaw (hl : G l = some (.lst xl)) : ∀ {v : List (Str × V)} {d : List (Str × Dat)}, NLf d → Flds K G v d → Flds K (del G l) v d
  | _, _, _, .nil => .nil
  | _, _, n, .cons h r => by
    rw [NLf] at n
    exact .cons (Rep.thaw hl n.1 h) (Flds.thaw hl n.2 r)
theorem Dcts.thaw (hl : G l = some (.lst xl)) : ∀ {v : List (List Key × V)} {d : List (List Key × Dat)}, NLd d → Dcts K G v d → Dcts K (del G l) v d
  | _, _, _, .nil => .nil
  | _, _, n, .cons h r => by
    rw [NLd] at n
    exact .cons (Rep.thaw hl n.1 h) (Dcts.thaw hl n.2 r)
theorem Dcks.thaw (hl : G l = some (.lst xl)) : ∀ {v : List (Key × V)} {d : List (Key × Dat)}, NLk d → Dcks K G v d → Dcks K (del G l) v d
  | _, _, _, .nil => .nil
  | _, _, n, .cons h r => by
    rw [NLk] at n
    exact .cons (Rep.thaw hl n.1 h) (Dcks.thaw hl n.2 r)
end
end
theorem NLs.get : ∀ {ds : List Dat} {i : Nat} {d : Dat}, NLs ds → ds[i]? = some d → NL d
  | [], _, _, _, h => by simp at h
  | _ :: _, 0, _, p, h => by
    have e := Option.some.inj h
    subst e
    unfold NLs at p
    exact p.1
  | _ :: ds, i + 1, d, p, h => by
    rw [List.getElem?_cons_succ] at h
    unfold NLs at p
    exact NLs.get p.2 h
theorem NLs.ints : ∀ (ns : List Int), NLs (dI ns)
  | [] => by simp [NLs]
  | x :: ns => by
    rw [dI, List.map_cons, NLs]
    exact ⟨by simp [NL], NLs.ints ns⟩
section
variable {W : Wd} {K : PySem.W.Frag} {Γ : List (Option Dat)} {ta tb tc te tl tv : TE} {tt tu : TT} {tA : TA} {P R : Dat → Prop} {d a b : Dat} {G1 G0 H0 G H : Hp} {O : List (Addr × List Dat)} {σ : L2.St} {D : Ends} {tz ts tw : TS}
/-- what an own list at l was ahead of its being known -/
structure Thw (W : Wd) (G1 G0 H0 : Hp) (l : Addr) : Prop where
  g1 : G1 l = none
  g0 : G0 l = none
  h0 : H0 l = none
  m : ¬ W.m l
theorem S4.keepT {l : Addr} {ds : List Dat} {i : Nat} (hi : Γ[i]? = some (some (.adr l))) (S : S4 W K G1 G0 H0 Γ ((l, ds) :: O) σ G H) : Thw W G1 G0 H0 l ∧ σ[i]? = some (some (.ref l)) ∧ ∃ G2, S4 W K G1 G0 H0 (Γ.set i (some (.lst ds))) O σ G2 H ∧ ∃ xs, G2 l = some (.lst xs) ∧ Reps K G2 xs ds := by
  have o := S.own l ds List.mem_cons_self
  have n1 : G1 l = none := by
    cases q : G1 l with
    | none => rfl
    | some u =>
      have := S.fr l u q
      rw [o.g] at this
      cases this
  have n0 : G0 l = none := by
    cases q : G0 l with
    | none => rfl
    | some u =>
      have := S.stp.gg l u q
      rw [o.g] at this
      cases this
  obtain ⟨v, e1, e2⟩ := S.env.at' i _ hi
  have e3 := e2.adr_inv
  subst e3
  exact ⟨⟨n1, n0, o.h0, o.m⟩, e1, S4.keepX hi S⟩
theorem S4.thaw {l : Addr} {ds : List Dat} {i : Nat} (t : Thw W G1 G0 H0 l) (hi : σ[i]? = some (some (.ref l))) (hl : ∃ xs, G l = some (.lst xs) ∧ Reps K G xs ds) (S : S4 W K G1 G0 H0 Γ O σ G H) (hn : NLs ds)
    (hΓ : ∀ (j : Nat) d, j ≠ i → Γ[j]? = some (some d) → NL d) (hO : ∀ k es, (k, es) ∈ O → NLs es) : S4 W K G1 G0 H0 (Γ.set i (some (.adr l))) ((l, ds) :: O) σ (del G l) H := by
  obtain ⟨xs, h1, h2⟩ := hl
  have eg : Ex (del G l) G := fun a o e => by
    by_cases q : a = l
    · subst q
      rw [del_same] at e
      cases e
    · rw [del_ne q] at e
      exact e
  have ge : ∀ {G' : Hp}, G' l = none → Ex G' G → Ex G' (del G l) := fun {G'} hz e a o h => by
    rw [del_ne (ne_of_none h hz)]
    exact e a o h
  have hH : H l = some (.lst xs) := S.ok.ex l _ h1
  have stp : Stp W G0 H0 (del G l) H := ⟨ge t.g0 S.stp.gg, eg.trans S.ok.ex, S.stp.hh, fun a o e => S.stp.nw a o (eg a o e), S.stp.inv⟩
  have nd : ∀ k es, (k, es) ∈ O → k ≠ l := fun k es hm e => by
    have o := S.own k es hm
    rw [e] at o
    have := o.g
    rw [h1] at this
    cases this
  refine ⟨⟨by rw [List.length_set]; exact S.env.len, fun j d q => ?_⟩, ⟨stp.gh, stp.inv, fun a ha => ?_⟩, stp, fun k es hm => ?_, ?_, ge t.g1 S.fr⟩
  · by_cases hji : i = j
    · subst hji
      have hlt : i < Γ.length := by
        have := S.env.len
        rcases Nat.lt_or_ge i σ.length with z | z
        · omega
        · rw [List.getElem?_eq_none z] at hi
          cases hi
      rw [List.getElem?_set_self hlt] at q
      have e := Option.some.inj (Option.some.inj q)
      subst e
      exact ⟨_, hi, .adr l⟩
    · rw [List.getElem?_set_ne hji] at q
      obtain ⟨v, e1, e2⟩ := S.env.at' j d q
      exact ⟨v, e1, Rep.thaw h1 (hΓ j d (Ne.symm hji) q) e2⟩
  · rw [del_ne (fun e => t.m (by rw [← e]; exact ha))]
    exact S.ok.off a ha
  · rcases List.mem_cons.mp hm with e | hm
    · cases e
      exact ⟨del_same, t.h0, t.m, xs, hH, Reps.thaw h1 hn h2⟩
    · have o := S.own k es hm
      obtain ⟨ys, y1, y2⟩ := o.at'
      exact ⟨by rw [del_ne (nd k es hm)]; exact o.g, o.h0, o.m, ys, y1, Reps.thaw h1 (hO k es hm) y2⟩
  · rw [List.map_cons, List.nodup_cons]
    refine ⟨fun hm => ?_, S.nd⟩
    obtain ⟨⟨k, es⟩, hk, e⟩ := List.mem_map.mp hm
    exact nd k es hk e
theorem S4.swap {x y : Addr × List Dat} (S : S4 W K G1 G0 H0 Γ (x :: y :: O) σ G H) : S4 W K G1 G0 H0 Γ (y :: x :: O) σ G H := by
  refine ⟨S.env, S.ok, S.stp, fun l ds hm => S.own l ds ?_, ?_, S.fr⟩
  · simp only [List.mem_cons] at hm ⊢
    rcases hm with h | h | h
    · exact .inr (.inl h)
    · exact .inl h
    · exact .inr (.inr h)
  · have nd := S.nd
    simp only [List.map_cons, List.nodup_cons, List.mem_cons, not_or] at nd ⊢
    exact ⟨⟨fun e => nd.1.1 e.symm, nd.2.1⟩, nd.1.2, nd.2.2⟩
end
end Ly

set_option maxHeartbeats 4000000
namespace Ly
open PySem L2 PySem.Spec PyProof.Rows
def NLG (i : Nat) : Nat → List (Option Dat) → Prop
  | _, [] => True
  | k, none :: r => NLG i (k + 1) r
  | k, some d :: r => (k = i ∨ NL d) ∧ NLG i (k + 1) r
theorem NLG.at' {i : Nat} : ∀ {Γ : List (Option Dat)} {k : Nat}, NLG i k Γ → ∀ (j : Nat) d, k + j ≠ i → Γ[j]? = some (some d) → NL d
  | [], _, _, j, d, _, h => by simp at h
  | none :: r, k, n, 0, d, _, h => by simp at h
  | some e :: r, k, n, 0, d, hj, h => by
    have q := Option.some.inj (Option.some.inj h)
    subst q
    exact n.1.resolve_left (by omega)
  | none :: r, k, n, j + 1, d, hj, h => by
    rw [List.getElem?_cons_succ] at h
    exact NLG.at' (Γ := r) (k := k + 1) n j d (by omega) h
  | some e :: r, k, n, j + 1, d, hj, h => by
    rw [List.getElem?_cons_succ] at h
    exact NLG.at' (Γ := r) (k := k + 1) n.2 j d (by omega) h
theorem NLG.of {i : Nat} {Γ : List (Option Dat)} (n : NLG i 0 Γ) : ∀ (j : Nat) d, j ≠ i → Γ[j]? = some (some d) → NL d := fun j d hj h => n.at' j d (by omega) h
/-! ## an object that is being made -/
def WI (x C dx : Addr) (fs : List (Str × V)) : Wd where
  m := fun a => a = x
  I := fun H => H x = some (.ins C dx fs)
  loc := fun h e => by rw [e x rfl]; exact h
  tr := fun h hm => by
    subst hm
    exact ⟨_, h⟩
section
variable {W : Wd} {K : PySem.W.Frag} {Γ : List (Option Dat)} {ta tb tc te tl tv : TE} {tt tu : TT} {tA : TA} {P R : Dat → Prop} {d a b : Dat} {G1 G0 H0 G H G2 H2 : Hp} {O : List (Addr × List Dat)} {σ : L2.St} {D : Ends} {tz ts tw : TS} {x C dx CE : Addr} {fs : List (Str × V)} {f : Str}
theorem Stp.wi {fs gs : List (Str × V)} (s : Stp (WI x C dx fs) G H G2 H2) (h : H2 x = some (.ins C dx gs)) : Stp (WI x C dx gs) G H G2 H2 := ⟨s.gg, s.gh, s.hh, s.nw, h⟩
/-- self.f = e, self being made -/
theorem g_fld (h : Ev (WI x C dx fs) K tv Γ P) (ho : EvX (WI x C dx fs) K ta Γ (.adr x)) (hc : Cls K C) (hn : NoAttr K C f) (hl : fs.length < 1000) (S : S4 (WI x C dx fs) K G1 G0 H0 Γ [] σ G H)
    (k : ∀ y d G2 H2, P d → Rep K G2 y d → S4 (WI x C dx (putF f y fs)) K G1 G0 H0 Γ [] σ G2 H2 → D.nx σ H2) : sFld K ta tv f D σ H :=
  h σ G H S.env S.ok _ fun y d G2 H2 s p r => by
    have S2 := S.step s
    refine ho σ G2 H2 S2.env S2.ok _ fun v e G3 H3 s3 ee r3 => ?_
    subst ee
    cases r3
    have S3 := S2.step s3
    have hx : H3 x = some (.ins C dx fs) := S3.ok.inv
    refine ⟨x, C, dx, fs, rfl, hx, hc, hn, hl, ?_⟩
    have gx : G3 x = none := S3.ok.off x rfl
    have eg : Ex G3 (upd H3 x (.ins C dx (putF f y fs))) := fun a u e => by
      rw [upd_ne (ne_of_none e gx)]
      exact S3.ok.ex a u e
    refine k y d G3 _ p (r.mono s3.gg) ⟨S3.env, ⟨eg, upd_same, S3.ok.off⟩, ⟨S3.stp.gg, eg, fun a u hm e => ?_, S3.stp.nw, upd_same⟩, (fun _ _ hm => nomatch hm), List.nodup_nil, S3.fr⟩
    rw [upd_ne hm]
    exact S3.stp.hh a u hm e
theorem q_fld (h : Ev (WI x C dx fs) K tv Γ P) (ho : EvX (WI x C dx fs) K ta Γ (.adr x)) (hc : Cls K C) (hn : NoAttr K C f) (hl : fs.length < 1000) (S : S4 (WI x C dx fs) K G1 G0 H0 Γ [] σ G H)
    (k : ∀ y d G2 H2, P d → Rep K G2 y d → S4 (WI x C dx (putF f y fs)) K G1 G0 H0 Γ [] σ G2 H2 → tz D σ H2) : tSeq (sFld K ta tv f) tz D σ H := g_fld (D := { D with nx := tz D }) h ho hc hn hl S k
/-- what an __init__ makes of its arguments: the fields, or an error of the class at CE -/
abbrev InitSig := List Dat → Option (List (Str × Dat)) → Prop
def spInit (K : PySem.W.Frag) (C CE : Addr) (A : InitSig) : Sp := fun vs H Q E => ∃ G x dx ds vs' r, vs = .ref x :: vs' ∧ Ok (WI x C dx []) G H ∧ Reps K G vs' ds ∧ A ds r ∧ (r = none → ∀ H2, E (.ref CE) none H2) ∧
  (∀ fsd, r = some fsd → ∀ G2 H2 fs, Stp (WI x C dx fs) G H G2 H2 → Flds K G2 fs fsd → Q .non H2)
theorem spInit_len {A : InitSig} {n : Nat} (h : ∀ ds r, A ds r → ds.length = n) : ∀ vs H Q E, spInit K C CE A vs H Q E → vs.length = n + 1 := fun vs H Q E ⟨G, x, dx, ds, vs', r, e, _, r1, a, _⟩ => by rw [e, List.length_cons, r1.length, h ds r a]
/-- the call of a class, by values -/
theorem make_run {A : InitSig} {vs : List V} {ds : List Dat} {r : Option (List (Str × Dat))} {Q : VK} {E : XK} (k : Ok W G H) (rr : Reps K G vs ds) (ha : A ds r) (hE : r = none → ∀ H2, E (.ref CE) none H2) (q : ∀ fsd, r = some fsd → Go W K G H (· = .obj C fsd) Q) :
    ∀ x dx, H x = none → H dx = none → dx ≠ x → spInit K C CE A (.ref x :: (vs ++ [])) (upd (upd H dx (.own x)) x (.ins C dx [])) (fun v H2 => v = .non ∧ Q (.ref x) H2) E := fun x dx hx hdx hne => by
  rw [List.append_nil]
  have gx : G x = none := by
    cases e : G x with
    | none => rfl
    | some u =>
      rw [k.ex x u e] at hx
      cases hx
  have eH : ∀ a u, H a = some u → (upd (upd H dx (.own x)) x (.ins C dx [])) a = some u := fun a u e => by
    rw [upd_ne (ne_of_none e hx), upd_ne (ne_of_none e hdx)]
    exact e
  refine ⟨G, x, dx, ds, vs, r, rfl, ⟨fun a u e => eH a u (k.ex a u e), upd_same, fun a ha => by rw [ha]; exact gx⟩, rr, ha, hE, fun fsd er G2 H2 fs s fl => ⟨rfl, ?_⟩⟩
  have g2x : G2 x = none := by
    cases e : G2 x with
    | none => rfl
    | some u =>
      rcases s.nw x u e with z | z
      · rw [gx] at z
        cases z
      · rw [upd_same] at z
        cases z
  have gg : Ex G2 (upd G2 x (.ins C dx fs)) := Ex.new g2x
  have hx2 : H2 x = some (.ins C dx fs) := s.inv
  have keep : ∀ a u, H a = some u → H2 a = some u := fun a u e => s.hh a u (fun z => by
    have z : a = x := z
    rw [z, hx] at e
    cases e) (eH a u e)
  refine q fsd er _ (.obj C fsd) (upd G2 x (.ins C dx fs)) H2 ⟨s.gg.trans gg, fun a u e => ?_, fun a u _ e => keep a u e, fun a u e => ?_, ?_⟩ rfl (.obj upd_same (fl.mono gg))
  · by_cases q : a = x
    · subst q
      rw [upd_same] at e
      rw [hx2]
      exact e
    · rw [upd_ne q] at e
      exact s.gh a u e
  · by_cases q : a = x
    · subst q
      exact .inr hx
    · rw [upd_ne q] at e
      rcases s.nw a u e with z | z
      · exact .inl z
      · right
        cases h : H a with
        | none => rfl
        | some w =>
          rw [eH a w h] at z
          cases z
  · exact W.loc k.inv fun a ha => by
      obtain ⟨u, hu⟩ := W.tr k.inv ha
      rw [hu]
      exact keep a u hu
theorem v_make {A : InitSig} {ds : List Dat} {fsd : List (Str × Dat)} {E : XK} (h : EvAX W K tA Γ ds) (ha : A ds (some fsd)) : EvX W K (tMake C (spInit K C CE A) [] E tA) Γ (.obj C fsd) := fun σ G H n k Q q =>
  h σ G H n k _ fun vs ds' G2 H2 s e r => by
    subst e
    exact make_run (s.ok k) r ha (fun e => nomatch e) fun f e => by
      cases e
      exact q.step s
/-- the same where an error is wished for at the slots -/
def tMakeS (C : Addr) (sp : Sp) (E : L2.St → XK) (t : TA) : TE := fun σ H Q => t σ H fun vs H1 => ∀ x dx, H1 x = none → H1 dx = none → dx ≠ x → sp (.ref x :: (vs ++ [])) (upd (upd H1 dx (.own x)) x (.ins C dx [])) (fun v H2 => v = .non ∧ Q (.ref x) H2) (E σ)
/-- an attribute of a known object -/
theorem v_fld {fsd : List (Str × Dat)} (h : EvX W K ta Γ (.obj C fsd)) (hc : Cls K C) (hn : NoAttr K C f) (hl : fsd.lookup f = some d) : EvX W K (tFld K ta f) Γ d := fun σ G H n k Q q =>
  h σ G H n k _ fun v e G2 H2 s ee r => by
    subst ee
    cases r with
    | obj hg fl =>
      obtain ⟨u, h1, h2⟩ := fl.get hl
      exact ⟨_, C, _, _, u, rfl, (s.ok k).ex _ _ hg, hc, hn, h1, (q.step s).here (s.ok k) h2 rfl⟩
theorem Flds.none : ∀ {vs : List (Str × V)} {fs : List (Str × Dat)}, Flds K G vs fs → fs.lookup f = none → vs.lookup f = none
  | _, _, .nil, _ => rfl
  | _, _, .cons (f := g) h r, e => by
    rw [List.lookup_cons] at e ⊢
    by_cases q : (f == g) = true
    · rw [q] at e
      cases e
    · have q : (f == g) = false := by simpa using q
      rw [q] at e ⊢
      exact Flds.none r e
/-- a method of a known object: its promise over no world -/
theorem v_meth0 {A : Sig} {m : Str} {fsd : List (Str × Dat)} {E : XK} {R : List Dat → Prop} (h : EvX W K ta Γ (.obj C fsd)) (hm : fsd.lookup m = none) (h2 : EvA W K tA Γ R) (hs : ∀ ds, R ds → A (.obj C fsd :: ds) P) : Ev W K (tMeth C m (spOf Wd0 K A) [] E ta tA) Γ P := fun σ G H n k Q q =>
  h σ G H n k _ fun v e G2 H2 s ee r => by
    subst ee
    have k2 := s.ok k
    cases r with
    | @obj a C dx vs fs hg fl =>
      refine ⟨a, dx, vs, rfl, k2.ex _ _ hg, fl.none hm, ?_⟩
      refine h2 σ G2 H2 (n.mono s.gg) k2 _ fun ws ds G3 H3 s3 p r3 => ?_
      rw [List.append_nil]
      have s13 := s.trans s3
      exact ⟨G3, _, P, (s13.ok k).pure, .cons (.obj (s3.gg _ _ hg) (fl.mono s3.gg)) r3, hs ds p, fun v d G4 H4 t pd rd => q v d G4 H4 (s13.trans (Stp.of0 (s13.ok k) t)) pd rd⟩
/-- == and != by the class's own def -/
theorem v_eqOwn {A : Sig} {f1 f2 : List (Str × Dat)} {c neg : Bool} (h1 : EvX W K ta Γ (.obj C f1)) (h2 : EvX W K tb Γ (.obj C f2)) (hs : A [.obj C f1, .obj C f2] (· = .bl c)) : EvX W K (tOp (rEqOwn C (spOf Wd0 K A) neg) ta tb) Γ (.bl (if neg = true then !c else c)) := v_opx h1 h2 fun G H x y k rx ry Q q => by
  cases rx with
  | @obj a _ dx vs _ hg fl =>
    cases ry with
    | @obj b _ dy us _ hg2 fl2 =>
      exact ⟨a, b, dx, dy, vs, us, rfl, rfl, k.ex _ _ hg, k.ex _ _ hg2, G, _, _, k.pure, .cons (.obj hg fl) (.cons (.obj hg2 fl2) .nil), hs, fun v d G2 H2 t pd rd => by
        subst pd
        cases rd
        exact ⟨c, rfl, (q.step (Stp.of0 k t)).here ((Stp.of0 k t).ok k) (.bl _) rfl⟩⟩
/-- isinstance(x, C), x of the class -/
theorem v_isOwn {fsd : List (Str × Dat)} {f : Addr} (q : ClsQ K C f) (h : EvX W K ta Γ (.obj C fsd)) : EvX W K (tCB (rIsi K) (tCons ta (tCons (tC (.ref C)) tNil))) Γ (.bl true) := fun σ G H n k Q qq =>
  h σ G H n k _ fun v e G2 H2 s ee r => by
    subst ee
    have k2 := s.ok k
    cases r with
    | @obj a _ dx vs _ hg fl =>
      exact ⟨.ref a, .ref C, .ref C, .ref C, true, rfl, .own C, .base (.ins (k2.ex _ _ hg) q.cls q.ha q.hn q.ht q.hm), by
        unfold PySem.W.kitOne
        rw [if_pos (by simp)], (qq.step s).here k2 (.bl _) rfl⟩
end
section
variable {X : Cx} {CX : CXT} {k : Nat} {f C : Addr} {fd : FuncData} {ps : List Str} {sp : Sp} {E : L2.St → XK} {x m : Str} {p pos : Pos} {e : Expr} {es : List Expr} {t : TA}
theorem run_makeS {pp : List (Addr × Obj)} {σ : L2.St} {H : Hp} {s : Shared} {Q : VK} {us : List Value} {vs : List V} (M : Mk X.K C f) (F : FnOk X.prog X.w X.K X.mg X.base CX k f fd ps sp) (hr : Room (k + 1) X.A) (hb : Binds X.K fd ps [])
    (hx : PassesAt CX X σ (E σ)) (I : Inv X pp σ H s) (r : Vals vs us)
    (h : ∀ x dx, H x = none → H dx = none → dx ≠ x → sp (.ref x :: (vs ++ [])) (upd (upd H dx (.own x)) x (.ins C dx [])) (fun v H2 => v = .non ∧ Q (.ref x) H2) (E σ)) :
    wpAny (model X.prog X.w) X.A (call (.ref C) us) (EP X pp σ Q) X.xe s := by
  have w0 := h (s.heap.objs.size + 1) s.heap.objs.size (I.hok.fresh (Nat.le_succ _)) (I.hok.fresh (Nat.le_refl _)) (Nat.ne_of_lt (Nat.lt_succ_self _))
  have J2 := Inv.made (C := C) I
  have r2 : Vals (V.ref (s.heap.objs.size + 1) :: (vs ++ [])) (Value.ref (s.heap.objs.size + 1) :: (us ++ [])) := .cons rfl (r.append .nil)
  have hl : (Value.ref (s.heap.objs.size + 1) :: us ++ []).length = ps.length := by
    have e := r2.length
    rw [F.len _ _ _ _ w0] at e
    exact e.symm
  refine wpAny_call (make_map (f := f) I.kIn M.makes M.init (beq_iff_eq.mp M.fn) (codeAny_mono (F.run _ X.stack _ _ ⟨Value.ref (s.heap.objs.size + 1) :: us, []⟩ (Value.ref (s.heap.objs.size + 1) :: (us ++ [])) _ _ (E σ) (hr.make C us [])
    (J2.env0.make C us []) (by have b := hb _ (Value.ref (s.heap.objs.size + 1) :: us) J2.kIn (by simpa using hl); simpa using b) r2 w0) fun r s' w1 => ?_))
  cases r with
  | error e => exact hx pp _ _ e s' J2 w1
  | ok fl =>
    cases fl with
    | ret u =>
      obtain ⟨v, H', J3, rw0, ev, q9⟩ := J2.after w1
      subst ev
      exact ⟨rw0, ⟨V.ref (s.heap.objs.size + 1), H', J3, rfl, q9⟩⟩
    | next => exact w1.elim
    | brk => exact False.elim w1
    | cont => exact False.elim w1
theorem pe_makeS (M : Mk X.K C f) (F : FnOk X.prog X.w X.K X.mg X.base CX k f fd ps sp) (hr : Room (k + 1) X.A) (hg : Gl X x) (hm : X.mg x = some (.ref C)) (hb : Binds X.K fd ps []) (hx : ∀ σ, PassesAt CX X σ (E σ))
    (ha : PA X (e :: es) t) (hdb : (x == ("__debug__" : Str)) = false := by decide) (he : starEach (e :: es) X.env = (false, eval e X.env) :: starEach es X.env := by rfl) (hpl : (backTo pos (starEach es X.env)).any (·.1) = false := by rfl) :
    PE X (.Call (.Name x p) (e :: es) [] pos) (tMakeS C sp E t) := by
  refine ⟨fun pp s σ H Q I h => ?_⟩
  refine wpAny_Call_Name_kw (ld_glob I hg hm ?_ hdb)
  refine PySem.W.callWith_K (h₀ := X.base) I.ok.mod.kin M.kp (thn (ha.run pos pp s σ H _ I h) fun us s1 ⟨vs, Ha, Ia, r, q⟩ => ⟨Ia.kIn, ?_⟩) he hpl
  exact run_makeS M F hr hb (hx σ) Ia r q
/-- a suite that is read for one class of errors -/
theorem suite_by {st : List Stmt} {t : TS} {c0 cls : Value} {d : Option Addr} (h : cls = c0 → d = none → PSs X st t) : PSs X st (fun D σ H => cls = c0 ∧ d = none ∧ t D σ H) := ⟨fun pins s σ H D I ⟨e1, e2, q⟩ => (h e1 e2).run pins s σ H D I q⟩
end
end Ly

set_option maxHeartbeats 4000000
namespace Ly
open PySem L2 PySem.Spec PyProof.Rows
/-! ## a starred name in targets -/
section
variable {prog : Program} {w : World} {A : Around} {E : Value → Shared → Prop} {s : Shared}
theorem star_items {l : Addr} {items : Array Value} {n i : Nat} {Q : List Value → Shared → Prop} (hl : IsTup s.heap l items) (hnd : A.handled = none) (hi : i < n) (hn : n ≤ items.size + 1) (hz : items.size ≤ 16384)
    (h : ∀ (h' : Heap) (tk : Nat), (∀ b o, s.heap.get? b = some o → h'.get? b = some o) → Q (items.toList.take i ++ [.ref h'.objs.size] ++ (items.toList.drop i).drop (items.size + 1 - n)) { s with heap := h'.push { cls := .type "list", data := .seq ((items.toList.drop i).take (items.size + 1 - n)).toArray }, toks := tk }) : wpAny (model prog w) A (unpackItems (.ref l) n (some i)) Q E s := by
  have nel : l ≠ s.heap.objs.size := by
    obtain ⟨o, ho, _⟩ := hl
    exact Nat.ne_of_lt (Heap.lt_size ho)
  unfold unpackItems
  apply wpAny_bind
  unfold notIterableAtAll
  refine wpAny_bind (wpAny_specialOf hl.typeIs PySem.F.slot_tuple_iter.lookup ?_)
  refine wpAny_pure ?_
  rw [if_neg Bool.false_ne_true]
  apply wpAny_bind
  refine wpAny_holding (iter_tuple hl ?_)
  refine wpAny_bind (wpAny_holding (draw_tuple nel i 0 _ _ ⟨_, Heap.get?_push_size _ rfl, rfl, rfl⟩ (hl.push _) (by omega) fun ha ita sba => ?_))
  have tla : IsTup ha l items := (hl.push _).extBut sba.extBut nel
  rw [Nat.zero_add] at ita
  have itb := ita
  obtain ⟨oi, goi, _⟩ := itb
  have tlb := tla
  obtain ⟨ol, gol, _⟩ := tlb
  rw [List.drop_zero]
  have zf : (items.toList.take i).length = i := by rw [List.length_take, Array.length_toList]; omega
  rw [if_neg (show ¬ ((items.toList.take i).length < i) by rw [zf]; omega)]
  refine wpAny_bind (wpAny_holding (PySem.W.kun_collect (s := { s with heap := ha }) (T := "tuple_iterator") (.inr (.inr (.inr rfl))) (Walks.tuple (A := A.in1) hnd s.heap.objs.size l nel items) (fun j u st => st.1.typeIs) (k := i) (by omega) ⟨ita, tla⟩ (Heap.lt_size goi) (Heap.lt_size gol) (fun hb2 tk kk => ?_) (by rw [sizeLine_eq]; omega)))
  have zr : (items.toList.drop i).length = items.size - i := by rw [List.length_drop, Array.length_toList]
  have zm : (items.toList.drop i).length - (n - 1 - i) = items.size + 1 - n := by rw [zr]; omega
  change wpAny _ _ (if (items.toList.drop i).length < n - 1 - i then _ else _) _ _ _
  rw [if_neg (by rw [zr]; omega)]
  change wpAny _ _ (newList ((items.toList.drop i).take ((items.toList.drop i).length - (n - 1 - i))) >>= fun d => pure (items.toList.take i ++ [d] ++ (items.toList.drop i).drop ((items.toList.drop i).length - (n - 1 - i)))) _ _ _
  rw [zm]
  refine wpAny_bind (wpAny_newList (s := { s with heap := hb2, toks := tk }) (wpAny_pure (h hb2 tk fun b o e => ?_)) (by rw [List.length_take, zr, sizeLine_eq]; omega))
  have hb : b ≠ s.heap.objs.size := Nat.ne_of_lt (Heap.lt_size e)
  exact kk b o hb (sba.extBut b o hb (Heap.get?_push_of_some _ e))
end
section
variable {X : Cx} {pos : Pos}
theorem pgs_consS {e : Expr} {es : List Expr} {p : Pos} {t : TG} {u : TGs} (h1 : PG X e t) (h2 : PGs X es u)
    (hs : (assignEach (.Starred e p :: es) X.env).map (·.2) = assign e X.env :: (assignEach es X.env).map (·.2) := by rfl) : PGs X (.Starred e p :: es) (gCons t u) := by
  refine ⟨fun pp s σ H vs us Q I r h => ?_⟩
  obtain ⟨v, vr, e1, h⟩ := h
  subst e1
  cases r with
  | cons r rq =>
    rw [hs]
    refine assignInOrder_cons (thn (h1.run pp s σ H _ _ _ I r h) fun _ s1 ⟨σ1, H1, I1, qa⟩ => ?_)
    exact h2.run pp s1 σ1 H1 _ _ Q I1 rq qa
/-- (a, .., *b, ..) = a tuple: n targets, the starred one at i -/
def gTupS (K : PySem.W.Frag) (n i : Nat) (t : TGs) : TG := fun v σ H Q => ∃ a xs, v = .ref a ∧ SqT K H a xs ∧ n ≤ xs.length + 1 ∧ xs.length ≤ 16384 ∧
  ∀ p, H p = none → t (xs.take i ++ [.ref p] ++ (xs.drop i).drop (xs.length + 1 - n)) σ (upd H p (.lst ((xs.drop i).take (xs.length + 1 - n)))) Q
theorem pg_tupS {es : List Expr} {k : Nat} {t : TGs} {n i : Nat} (hc : X.calm = true) (h : PGs X es t)
    (hn : (assignEach es X.env).length = n := by rfl) (hst : (assignEach es X.env).findIdx? (·.1) = some i := by rfl) (hi : i < n := by decide) : PG X (.Tuple es k pos) (gTupS X.K n i t) := by
  refine ⟨fun pp s σ H v u Q I r hx0 => ?_⟩
  obtain ⟨a, xs, e1, hq, hl, hz, hx0⟩ := hx0
  subst e1
  cases r
  obtain ⟨its, rv, ht, _⟩ := I.tuple hq
  have el := rv.length
  rw [assign_Tuple]
  refine wpAny_bind (wpAny_standAt ?_)
  unfold unpack
  rw [hn, hst]
  refine wpAny_bind (wpAny_holding (star_items ht (I.ok.hd hc) hi (by rw [List.size_toArray]; omega) (by rw [List.size_toArray]; omega) fun h' tk hx => ?_))
  have I1 : Inv X pp σ H { s with heap := h', toks := tk } := I.kept (t' := tk) hx
  have rm : Vals ((xs.drop i).take (xs.length + 1 - n)) ((its.drop i).take (its.length + 1 - n)) := by
    rw [el]
    exact (rv.drop i).take _
  have I2 : Inv X pp σ (upd H h'.objs.size (.lst ((xs.drop i).take (xs.length + 1 - n)))) { s with heap := h'.push { cls := .type "list", data := .seq ((its.drop i).take (its.length + 1 - n)).toArray }, toks := tk } :=
    I1.lnew (t' := tk) rm (by rw [List.length_take, List.length_drop, sizeLine_eq]; omega)
  have f : H h'.objs.size = none := I1.fresh
  have q := h.run pp _ σ _ _ (its.take i ++ [Value.ref h'.objs.size] ++ (its.drop i).drop (its.length + 1 - n)) Q I2 (((rv.take i).append (.cons (show RelV (.ref h'.objs.size) (.ref h'.objs.size) from rfl) .nil)).append (by rw [el]; exact (rv.drop i).drop _)) (hx0 _ f)
  simpa using q
end
/-! ## min of a tuple of ints -/
theorem reads_ints {h : Heap} : ∀ {vs : List Value} {ns : List Int}, IntsAre vs ns → ReadsAll h vs (ns.map .int) []
  | _, _, .nil => .nil
  | _, _, .cons n t r => .cons (as := []) (bs := []) (.int ..) (reads_ints r)
section
variable {X : Cx}
def rMinT (K : PySem.W.Frag) : List V → Hp → VK → Prop := fun vs H Q => ∃ (a : Addr) (n : Int) (ns : List Int), vs = [V.ref a] ∧ SqT K H a ((n :: ns).map V.int) ∧ Q (.int (ns.foldl min n)) H
theorem cr_minT (hc : X.calm = true) (hu : X.A.units + 64 < cLine) : CallR X (.builtin "min") (rMinT X.K) := by
  intro pp s σ H vs us Q I r h
  obtain ⟨a, n, ns, rfl, hs, q⟩ := h
  obtain ⟨kts, rv, hl, _⟩ := I.tuple hs
  rw [Vals.ref1 r]
  have al : ∀ ms : List Int, PySem.W.AlikeAll (ms.map .int) := fun ms => ⟨fun x hx y hy => by
    obtain ⟨i, _, rfl⟩ := List.mem_map.mp hx
    obtain ⟨j, _, rfl⟩ := List.mem_map.mp hy
    rfl, fun x hx => by
    obtain ⟨i, _, rfl⟩ := List.mem_map.mp hx
    exact fun e => nomatch e⟩
  refine PySem.W.min_tuple_data (I.ok.hd hc) hl (reads_ints (rv.ints)) (al (n :: ns)) ?_ fun i v h' tk bs _ rd hk => ?_
  · have e := PyProof.Rows.depthAll_ints (n :: ns)
    rw [List.map_cons] at e
    rw [e]
    omega
  · rw [PySem.W.minD_ints] at rd
    cases rd
    exact ⟨.int _, H, I.kept hk, ⟨_, rfl⟩, q⟩
end
/-! ## list + list -/
section
variable {X : Cx}
def rCatL (K : PySem.W.Frag) : R2 := fun x y H Q => ∃ l b xs zs, x = .ref l ∧ y = .ref b ∧ SqL K H l xs ∧ SqL K H b zs ∧ xs.length + zs.length ≤ sizeLine ∧ ∀ p, H p = none → Q (.ref p) (upd H p (.lst (xs ++ zs)))
theorem op_catL : OpR X (binaryOp .Add) (rCatL X.K) := by
  intro pp s σ H x y v u Q I ra rb h
  obtain ⟨l, b, xs, zs, rfl, rfl, hH, hB, zz, q⟩ := h
  cases ra
  cases rb
  obtain ⟨kts, r, pl, z⟩ := I.list hH
  obtain ⟨jts, r2, pl2, z2⟩ := I.list hB
  have e1 := r.length
  have e2 := r2.length
  obtain ⟨⟨cls, dd, data, sl⟩, n, ho, hc, _, hd⟩ := pl
  obtain ⟨⟨cls2, dd2, data2, sl2⟩, n2, ho2, hc2, _, hd2⟩ := pl2
  simp only at hc hd hc2 hd2
  subst hc hd hc2 hd2
  have ea : kts.toArray ++ jts.toArray = (kts ++ jts).toArray := by simp
  refine concat_meets ⟨_, ho, rfl⟩ ⟨_, ho2, rfl⟩ noFill_list_add seq_list_add PySem.F.slot_list_add PySem.F.entry_list_add (PySem.F.args_list_add_2 _ _) (list_addW l b kts.toArray jts.toArray n n2 dd dd2 sl sl2 (by simp; omega)) ⟨ho, ho2, ?_⟩
  rw [ea]
  exact ⟨.ref _, _, I.lnew (t' := s.toks) (r.append r2) (by rw [List.length_append]; omega), rfl, q _ I.fresh⟩
end

/-! ## by data -/
section
variable {W : Wd} {K : PySem.W.Frag} {Γ : List (Option Dat)} {ta tb tc te tl tv : TE} {tt tu : TT} {tA : TA} {P R : Dat → Prop} {d a b : Dat} {G1 G0 H0 G H G2 H2 : Hp} {O : List (Addr × List Dat)} {σ : L2.St} {D : Ends} {tz ts tw : TS}
theorem v_minT {n : Int} {ns : List Int} (h : EvX W K ta Γ (.tup ((n :: ns).map Dat.int))) : EvX W K (tCB (rMinT K) (tCons ta tNil)) Γ (.int (ns.foldl min n)) := v_cbx (a_consx h a_nil) fun G H xs k r Q q => by
  cases r with
  | cons r rr =>
    cases rr
    obtain ⟨a, ys, rfl, hs, rs⟩ := r.tup_inv
    have e := rs.ints
    subst e
    exact ⟨a, n, ns, rfl, ex_t k.ex hs, q.here k (.int _) rfl⟩
theorem n_catL {xs ys : List Dat} (ha : EvX W K ta Γ (.lst xs)) (hb : EvX W K tb Γ (.lst ys)) (hz : xs.length + ys.length ≤ 100000) : EvN W K (tOp (rCatL K) ta tb) Γ (· = xs ++ ys) := fun σ G H n k Q q =>
  ha σ G H n k _ fun x dx G2 H2 s px rx => hb σ G2 H2 (n.mono s.gg) (s.ok k) _ fun y dy G3 H3 t py ry => by
    subst px py
    obtain ⟨a, us, rfl, ha, ra⟩ := rx.lst_inv
    obtain ⟨b, vs, rfl, hb, rb⟩ := ry.lst_inv
    have k3 := t.ok (s.ok k)
    refine ⟨a, b, us, vs, rfl, rfl, ex_l (t.gg.trans k3.ex) ha, ex_l k3.ex hb, by rw [ra.length, rb.length]; exact sz_of hz, fun p hp => ?_⟩
    have st := s.trans t
    have k4 : Stp W G3 H3 G3 (upd H3 p (.lst (us ++ vs))) := Stp.grow k3 (Ex.new hp)
    refine q p _ _ G3 _ (st.trans k4) ((back st hp).1) ((back (Stp.refl k3) hp).2) upd_same ((ra.mono t.gg).append rb) rfl
/-- xs[i] = e, xs the own list -/
theorem g_put {l : Addr} {ds : List Dat} {m : Int} (h : Ev W K te Γ P) (ho : EvX W K ta Γ (.adr l)) (hi : Ev W K tb Γ (Drawn m)) (hl : (ds.length : Int) = m) (S : S4 W K G1 G0 H0 Γ ((l, ds) :: O) σ G H)
    (k : ∀ (j : Nat) d G2 H2, j < ds.length → P d → S4 W K G1 G0 H0 Γ ((l, ds.set j d) :: O) σ G2 H2 → D.nx σ H2) : tAsg te (gSub ta tb rSetL) D σ H := h σ G H S.env S.ok _ fun v d G2 H2 s p r => by
  have S2 := S.step s
  refine ho σ G2 H2 S2.env S2.ok _ fun x e G3 H3 s3 ee r3 => ?_
  subst ee
  cases r3
  have S3 := S2.step s3
  refine hi σ G3 H3 S3.env S3.ok _ fun y e G4 H4 s4 ⟨j, ej, j0, j1⟩ r4 => ?_
  subst ej
  cases r4
  have S4' := S3.step s4
  obtain ⟨xs, h1, h2⟩ := (S4'.own l ds List.mem_cons_self).at'
  have hlen := h2.length
  refine ⟨l, xs, j, j.toNat, rfl, rfl, h1, ?_, ?_⟩
  · unfold ixN
    rw [if_pos j0, if_pos (by omega)]
  · exact k j.toNat d G4 _ (by omega) p (S4'.put (h2.set ((r.mono s3.gg).mono s4.gg) j.toNat))
theorem q_put {l : Addr} {ds : List Dat} {m : Int} (h : Ev W K te Γ P) (ho : EvX W K ta Γ (.adr l)) (hi : Ev W K tb Γ (Drawn m)) (hl : (ds.length : Int) = m) (S : S4 W K G1 G0 H0 Γ ((l, ds) :: O) σ G H)
    (k : ∀ (j : Nat) d G2 H2, j < ds.length → P d → S4 W K G1 G0 H0 Γ ((l, ds.set j d) :: O) σ G2 H2 → tz D σ H2) : tSeq (tAsg te (gSub ta tb rSetL)) tz D σ H := g_put (D := { D with nx := tz D }) h ho hi hl S k
/-- the first own list is forgotten -/
theorem S4.drop {x : Addr × List Dat} (S : S4 W K G1 G0 H0 Γ (x :: O) σ G H) : S4 W K G1 G0 H0 Γ O σ G H := ⟨S.env, S.ok, S.stp, fun l ds hm => S.own l ds (List.mem_cons_of_mem _ hm), by
  have := S.nd
  rw [List.map_cons, List.nodup_cons] at this
  exact this.2, S.fr⟩
/-- a, b, *c = t -/
theorem g_tupS2 {i j l : Nat} {x y : Dat} {ds : List Dat} (h : EvX W K te Γ (.tup (x :: y :: ds))) (hz : ds.length ≤ 1000) (S : S4 W K G1 G0 H0 Γ O σ G H) (k : ∀ σ2 G2 H2, S4 W K G1 G0 H0 (((Γ.set i (some x)).set j (some y)).set l (some (.lst ds))) O σ2 G2 H2 → D.nx σ2 H2) :
    tAsg te (gTupS K 3 2 (gCons (gName i) (gCons (gName j) (gCons (gName l) gNil)))) D σ H := h σ G H S.env S.ok _ fun v e G2 H2 s ee r => by
  subst ee
  have S2 := S.step s
  obtain ⟨a, xs, rfl, hs, rs⟩ := r.tup_inv
  cases rs with
  | @cons vx xs' _ _ rx rs =>
    cases rs with
    | @cons vy zs _ _ ry rs =>
      have hl := rs.length
      refine ⟨a, _, rfl, ex_t S2.ok.ex hs, by simp, by simp; omega, fun p hp => ?_⟩
      have e1 : (vx :: vy :: zs).length + 1 - 3 = zs.length := by simp
      rw [e1]
      have e2 : List.take zs.length (List.drop 2 (vx :: vy :: zs)) = zs := by simp
      have e3 : List.drop zs.length (List.drop 2 (vx :: vy :: zs)) = [] := by simp
      rw [e2, e3]
      have st := Stp.new S2.ok (o := .lst zs) hp
      have S3 := S2.step st
      have rl : Rep K (upd G2 p (.lst zs)) (.ref p) (.lst ds) := .lst (l_of upd_same) (rs.mono st.gg)
      refine ⟨vx, [vy, .ref p], rfl, vy, [.ref p], rfl, .ref p, [], rfl, rfl, ?_⟩
      exact k _ _ _ (((S3.set (rx.mono st.gg)).set (ry.mono st.gg)).set rl)
theorem q_tupS2 {i j l : Nat} {x y : Dat} {ds : List Dat} (h : EvX W K te Γ (.tup (x :: y :: ds))) (hz : ds.length ≤ 1000) (S : S4 W K G1 G0 H0 Γ O σ G H) (k : ∀ σ2 G2 H2, S4 W K G1 G0 H0 (((Γ.set i (some x)).set j (some y)).set l (some (.lst ds))) O σ2 G2 H2 → tz D σ2 H2) :
    tSeq (tAsg te (gTupS K 3 2 (gCons (gName i) (gCons (gName j) (gCons (gName l) gNil))))) tz D σ H := g_tupS2 (D := { D with nx := tz D }) h hz S k
/-- try: y = C(..) except CE as e: a suite, for an __init__ that may raise CE -/
theorem g_tryMake {C CE : Addr} {A : InitSig} {i j : Nat} {tsu : Addr → Value → Option Addr → TS} {Wout : WX} {ds : List Dat} {r : Option (List (Str × Dat))} (h : EvAX W K tA Γ ds) (ha : A ds r) (hx : PySem.W.exmOne K (.ref CE) (.ref CE) = some true) (S : S4 W K G1 G0 H0 Γ O σ G H)
    (k1 : r = none → ∀ (a : Addr) (H2 : Hp), tsu a (.ref CE) none { nx := fun σ' H' => D.nx (σ'.set i none) H', rt := D.rt, bk := fun σ' H' => D.bk (σ'.set i none) H', ct := fun σ' H' => D.ct (σ'.set i none) H' } (σ.set i (some (.ref a))) H2)
    (k2 : ∀ fsd, r = some fsd → ∀ σ2 G2 H2, S4 W K G1 G0 H0 (Γ.set j (some (.obj C fsd))) O σ2 G2 H2 → D.nx σ2 H2) :
    tAsg (tMakeS C (spInit K C CE A) (WE (wAs K (.ref CE) i tsu Wout D)) tA) (gName j) D σ H := h σ G H S.env S.ok _ fun vs ds' G2 H2 s e rr => by
  subst e
  have S2 := S.step s
  refine make_run (C := C) (CE := CE) (Q := fun x H1 => gName j x σ H1 D.nx) (E := WE (wAs K (.ref CE) i tsu Wout D) σ) S2.ok rr ha (fun e H3 => ⟨true, hx, fun _ a _ => k1 e a H3, fun z => Bool.noConfusion z⟩) fun fsd e v d G3 H3 s3 p r3 => ?_
  subst p
  exact k2 fsd e _ G3 H3 ((S2.step s3).set r3)
end
end Ly

set_option maxHeartbeats 4000000
namespace Ly
open PySem L2 PySem.Spec PyProof.Rows
/-! ## classes of the text -/
/-- a class that may be made by its name, and may raise; sp: its __init__ -/
structure MakS (P : Program) (w : World) (K : PySem.W.Frag) (mg : Str → Option Value) (base : Heap) (k : Nat) (x : Str) (C : Addr) (sp : Sp) : Prop where
  ex : ∃ (f : Addr) (fd : FuncData) (ps : List Str), Mk K C f ∧ FnOk P w K mg base (L2.CX P w) k f fd ps sp ∧ mg x = some (.ref C) ∧ Binds K fd ps []
section
variable {P : Program} {w : World} {K : PySem.W.Frag} {mg : Str → Option Value} {base : Heap}
theorem maks_of {x qual : Str} {C : Addr} {st : Stmt} {N ps : List Str} {k : Nat} {sp : Sp} (M : ∃ f fd, Mk K C f ∧ Fun K "__init__" qual st f fd) (hm : mg x = some (.ref C))
    (hb : ∀ (kV doc pm : Value) (an : Option Addr) (cdv ct : Value) (us : List Value), us.length = ps.length → bindArgs (PySem.W.fnOf "__init__" qual (defArgs st) (defBody st) (defScope st) .none kV doc pm an cdv ct) ⟨us, []⟩ = pure (ps.zip us))
    (S : FnScope N ps (defScope st)) (len : ∀ vs H Q E, sp vs H Q E → vs.length = ps.length)
    (hbody : ∀ (f : Addr) (cdv : Value) (A : Around) (outer : List PySem.Env) (s : Shared) (H : Hp) (vs : List V) (Q : VK) (E : XK), Room k (A.deeper (envOfC qual (defScope st) s.heap.objs.size f cdv)) → sp vs H Q E →
      ∃ t, PSs (cxOf (L2.CX P w) P w K mg base N qual (defScope st) f cdv A outer s H E) (defBody st) t ∧ t { nx := fun _ H' => Q .non H', rt := Q } (L2.start N vs) H) : MakS P w K mg base (k + 1) x C sp := by
  obtain ⟨f, fd, m, F⟩ := M
  exact ⟨⟨f, fd, ps, m, F.okX S len (hbody f), hm, F.binds hb⟩⟩
theorem met_of {m qual : Str} {C : Addr} {st : Stmt} {N ps : List Str} {k : Nat} {sp : Sp} (c : Cls K C) (M : ∃ f fd, Meth K C m f ∧ Fun K m qual st f fd)
    (hb : ∀ (kV doc pm : Value) (an : Option Addr) (cdv ct : Value) (us : List Value), us.length = ps.length → bindArgs (PySem.W.fnOf m qual (defArgs st) (defBody st) (defScope st) .none kV doc pm an cdv ct) ⟨us, []⟩ = pure (ps.zip us))
    (S : FnScope N ps (defScope st)) (len : ∀ vs H Q E, sp vs H Q E → vs.length = ps.length)
    (hbody : ∀ (f : Addr) (cdv : Value) (A : Around) (outer : List PySem.Env) (s : Shared) (H : Hp) (vs : List V) (Q : VK) (E : XK), Room k (A.deeper (envOfC qual (defScope st) s.heap.objs.size f cdv)) → sp vs H Q E →
      ∃ t, PSs (cxOf CX0 P w K mg base N qual (defScope st) f cdv A outer s H E).nox (defBody st) t ∧ t { nx := fun _ H' => Q .non H', rt := Q } (L2.start N vs) H) : C8.Met P w K mg base (k + 1) C m sp [] := by
  obtain ⟨f, fd, me, F⟩ := M
  exact ⟨⟨f, fd, ps, [], c, me, F.ok S len (hbody f), F.binds hb, .nil⟩⟩
/-- an own == -/
structure EqS (P : Program) (w : World) (K : PySem.W.Frag) (mg : Str → Option Value) (base : Heap) (k : Nat) (C : Addr) (sp : Sp) : Prop where
  ex : ∃ (f : Addr) (fd : FuncData) (ps : List Str), ClsQ K C f ∧ FnOk P w K mg base CX0 k f fd ps sp ∧ Binds K fd ps []
theorem eqs_of {qual : Str} {C : Addr} {st : Stmt} {N ps : List Str} {k : Nat} {sp : Sp} (M : ∃ f fd, ClsQ K C f ∧ Fun K "__eq__" qual st f fd)
    (hb : ∀ (kV doc pm : Value) (an : Option Addr) (cdv ct : Value) (us : List Value), us.length = ps.length → bindArgs (PySem.W.fnOf "__eq__" qual (defArgs st) (defBody st) (defScope st) .none kV doc pm an cdv ct) ⟨us, []⟩ = pure (ps.zip us))
    (S : FnScope N ps (defScope st)) (len : ∀ vs H Q E, sp vs H Q E → vs.length = ps.length)
    (hbody : ∀ (f : Addr) (cdv : Value) (A : Around) (outer : List PySem.Env) (s : Shared) (H : Hp) (vs : List V) (Q : VK) (E : XK), Room k (A.deeper (envOfC qual (defScope st) s.heap.objs.size f cdv)) → sp vs H Q E →
      ∃ t, PSs (cxOf CX0 P w K mg base N qual (defScope st) f cdv A outer s H E).nox (defBody st) t ∧ t { nx := fun _ H' => Q .non H', rt := Q } (L2.start N vs) H) : EqS P w K mg base (k + 1) C sp := by
  obtain ⟨f, fd, q, F⟩ := M
  exact ⟨⟨f, fd, ps, q, F.ok S len (hbody f), F.binds hb⟩⟩
end
section
variable {X : Cx} {k j : Nat} {C : Addr} {x m : Str} {sp : Sp} {p pos : Pos} {e : Expr} {es : List Expr} {t : TA}
theorem pe_mkS {E : L2.St → XK} (c : MakS X.prog X.w X.K X.mg X.base k x C sp) (hr : Room j X.A) (hk : k + 1 ≤ j) (hx : ∀ σ, PassesAt (L2.CX X.prog X.w) X σ (E σ)) (hg : Gl X x) (ha : PA X (e :: es) t)
    (hdb : (x == ("__debug__" : Str)) = false := by decide) (he : starEach (e :: es) X.env = (false, eval e X.env) :: starEach es X.env := by rfl) (hpl : (backTo pos (starEach es X.env)).any (·.1) = false := by rfl) :
    PE X (.Call (.Name x p) (e :: es) [] pos) (tMakeS C sp E t) := by
  obtain ⟨f, fd, ps, M, F, hm, b⟩ := c.ex
  exact pe_makeS M F (hr.mono hk) hg hm b hx ha hdb he hpl
theorem pe_mkX (c : MakS X.prog X.w X.K X.mg X.base k x C sp) (hr : Room j X.A) (hk : k + 1 ≤ j) (hg : Gl X x) (ha : PA X (e :: es) t)
    (hdb : (x == ("__debug__" : Str)) = false := by decide) (he : starEach (e :: es) X.env = (false, eval e X.env) :: starEach es X.env := by rfl) (hpl : (backTo pos (starEach es X.env)).any (·.1) = false := by rfl) :
    PE X (.Call (.Name x p) (e :: es) [] pos) (tMake C sp [] E0 t) := by
  obtain ⟨f, fd, ps, M, F, hm, b⟩ := c.ex
  exact pe_make M F (hr.mono hk) hg hm b .nil passL ha hdb he hpl
theorem op_eqS (c : EqS X.prog X.w X.K X.mg X.base k C sp) (hr : Room j X.A) (hk : k ≤ j) : OpR X (compareOp .Eq) (rEqOwn C sp false) := by
  obtain ⟨f, fd, ps, q, F, b⟩ := c.ex
  exact op_eqOwn F q b (hr.mono hk)
theorem op_neS (c : EqS X.prog X.w X.K X.mg X.base k C sp) (hr : Room j X.A) (hk : k + 1 ≤ j) : OpR X (compareOp .NotEq) (rEqOwn C sp true) := by
  obtain ⟨f, fd, ps, q, F, b⟩ := c.ex
  exact op_neOwn F q b (hr.mono hk)
end
/-- an own class of errors, without an __init__ of its own -/
structure ErrP (K : PySem.W.Frag) (mg : Str → Option Value) (x : Str) (C : Addr) : Prop where
  gl : mg x = some (.ref C)
  kp : PySem.W.keepIn K (.ref C) = true
  ex : PySem.W.excIn K C [.type "ValueError", .type "Exception", .type "BaseException", .type "object"] "ValueError.__new__" = true
  sub : PySem.W.subIn K (.ref C) (.type "BaseException") = some true
  ty : PySem.W.typeIn K (.ref C) = some (.type "type")
  hd : PySem.W.hasDictIn K C = true
  self : PySem.W.subIn K (.ref C) (.ref C) = some true
  is : ExcC K C
theorem ErrP.exm {K : PySem.W.Frag} {mg : Str → Option Value} {x : Str} {C : Addr} (e : ErrP K mg x C) : PySem.W.exmOne K (.ref C) (.ref C) = some true := PySem.W.exm_ref e.sub e.hd e.ty e.self
theorem ps_raiseE {X : Cx} {W : WX} {C : Addr} {x m : Str} {j : Nat} {p p2 pos pos2 : Pos} (hc : X.calm = true) (tk : Takes X W) (e : ErrP X.K X.mg x C) (hg : Gl X x) (hdb : (x == ("__debug__" : Str)) = false := by decide) :
    PS X (.Raise (some (.Call (.Name x p) [.Constant (.str m) j p2] [] pos)) none pos2) (fun _ σ H => W (.ref C) none σ H) :=
  ps_raise hc tk (pmk_own PySem.F.excBase_ValueError e.ex e.gl e.kp (raises_own e.sub e.ty) hg hdb)
end Ly
namespace Ly
open PySem L2 PySem.Spec PyProof.Rows
/-- isinstance(e, c) of a caught exception: its class told by the rule -/
def rIsE2 (K : PySem.W.Frag) (D a : Addr) (cls : Value) (d : Option Addr) : List V → Hp → VK → Prop := fun xs H Q => cls = .ref D ∧ d = none ∧ rIsE K D a xs H Q
theorem call_isE2 {X : Cx} {a D : Addr} {oe : Obj} {pn : List (Addr × Obj)} {cls : Value} {d : Option Addr} (C : ExcC X.K D) (hz : Zc cls d oe) (hf : ∃ vs, oe.data = .fields vs) : CallR (X.suite a ((a, oe) :: pn)) (.builtin "isinstance") (rIsE2 X.K D a cls d) := by
  intro pins s σ H xs us Q I r ⟨e1, e2, h⟩
  subst e1 e2
  exact call_isE C hz hf pins s σ H xs us Q I r h
section
variable {W : Wd} {K : PySem.W.Frag} {Γ : List (Option Dat)} {ta tb tc te : TE} {D a c : Addr} {b : Bool} {σ : L2.St} {H : Hp} {Q : VK} {i : Nat}
theorem isE_run (hk : PySem.W.kitOne K (.ref D) (.ref c) = some b) (hs : σ[i]? = some (some (.ref a))) (q : Q (.bl b) H) : tCB (rIsE2 K D a (.ref D) none) (tCons (tVar i) (tCons (tC (.ref c)) tNil)) σ H Q :=
  ⟨.ref a, hs, rfl, rfl, .ref c, .ref c, b, rfl, fun u r => r, hk, q⟩
end
end Ly
namespace Ly
open PySem L2 PySem.Spec PyProof.Rows
section
variable {W : Wd} {K : PySem.W.Frag} {Γ : List (Option Dat)} {ta tb tc te tl tn : TE} {tt : TT}
/-- [f(x) for x in us] -/
theorem n_lcM {α : Type} {j : Nat} {us : List α} {f g : α → Dat} (h : EvX W K tl Γ (.lst (us.map f))) (hl : us.length < 100000) (he : ∀ x, x ∈ us → EvX W K te ((wipeG Γ [j]).set j (some (f x))) (g x)) :
    EvN W K (tLc (iList K tl) (gName j) tYes te [j]) Γ (· = us.map g) :=
  n_lcL (fun i ds => ds = (us.take i).map g) h rfl (fun i d hd => by
    rw [List.getElem?_map] at hd
    cases e : us[i]? with
    | none =>
      rw [e] at hd
      cases hd
    | some x =>
      rw [e] at hd
      have ed : f x = d := Option.some.inj hd
      subst ed
      refine tn_each (fun ds e => by rw [e, List.length_map, List.length_take]; omega) fun ds e2 => (he x (List.mem_of_getElem? e)).imp fun d ed => ?_
      rw [e2, ed, List.take_succ, e]
      simp) fun ds e => by
    rw [List.length_map, List.take_length] at e
    exact e
/-- [x for x in ns if p(x)] -/
theorem n_lcF {j : Nat} {ns : List Int} {p : Int → Bool} (h : EvX W K tl Γ (.lst (dI ns))) (hl : ns.length < 100000) (ht : ∀ x, EvBX W K tt ((wipeG Γ [j]).set j (some (.int x))) (p x)) (he : ∀ x, EvX W K te ((wipeG Γ [j]).set j (some (.int x))) (.int x)) :
    EvN W K (tLc (iList K tl) (gName j) tt te [j]) Γ (· = dI (ns.filter p)) :=
  n_lcL (fun i ds => ds = dI ((ns.take i).filter p)) h rfl (fun i d hd => by
    rw [List.getElem?_map] at hd
    cases e : ns[i]? with
    | none =>
      rw [e] at hd
      cases hd
    | some x =>
      rw [e] at hd
      have ed : Dat.int x = d := Option.some.inj hd
      subst ed
      intro ds e2
      refine ⟨by
        rw [e2, List.length_map]
        have := (List.filter_sublist (p := p) (l := ns.take i)).length_le
        rw [List.length_take] at this
        omega, _, ht x, fun e3 => (he x).imp fun d ed => ?_, fun e3 => ?_⟩
      · rw [e2, ed, List.take_succ, e]
        simp [List.filter_append, ← e3]
      · rw [e2, List.take_succ, e]
        simp [List.filter_append, ← e3]) fun ds e => by
    rw [List.length_map, List.take_length] at e
    exact e
end
end Ly
namespace Ly
open PySem L2 PySem.Spec PyProof.Rows
section
variable {W : Wd} {K : PySem.W.Frag} {Γ : List (Option Dat)} {te : TE}
theorem EvN.imp {P R : List Dat → Prop} (h : EvN W K te Γ P) (i : ∀ ds, P ds → R ds) : EvN W K te Γ R := fun σ G H n k Q q => h σ G H n k Q fun p xs ds G2 H2 s a b c r e => q p xs ds G2 H2 s a b c r (i ds e)
end
end Ly

set_option maxHeartbeats 4000000
namespace Ly
open PySem L2 PySem.Spec PyProof.Rows
section
variable {W : Wd} {K : PySem.W.Frag} {Γ : List (Option Dat)} {ta tb tc te tl tv : TE} {tt tu : TT} {tA : TA} {P R S : Dat → Prop} {d a b : Dat} {G1 G0 H0 G H G2 H2 : Hp} {O : List (Addr × List Dat)} {σ : L2.St} {D : Ends} {tz ts tw : TS}
/-- an own list is known for a while; behind it, it is the body's own again -/
theorem S4.peek {l : Addr} {ds : List Dat} {i : Nat} (hi : Γ[i]? = some (some (.adr l))) (hn : NLs ds) (S : S4 W K G1 G0 H0 Γ ((l, ds) :: O) σ G H) : ∃ Gk, S4 W K Gk G0 H0 (Γ.set i (some (.lst ds))) O σ Gk H ∧
    ∀ {Γ' : List (Option Dat)} {O' : List (Addr × List Dat)} {σ' : L2.St} {G' H' : Hp}, S4 W K Gk G0 H0 Γ' O' σ' G' H' → σ'[i]? = σ[i]? → NLG i 0 Γ' → (∀ k es, (k, es) ∈ O' → NLs es) → ∃ G'', S4 W K G1 G0 H0 (Γ'.set i (some (.adr l))) ((l, ds) :: O') σ' G'' H' := by
  obtain ⟨t, e1, G2, S2, xs, h1, h2⟩ := S.keepT hi
  exact ⟨G2, S2.here, fun {Γ' O' σ' G' H'} S' es hΓ hO => ⟨del G' l, S4.thaw t (es.trans e1) ⟨xs, S'.fr _ _ h1, h2.mono S'.fr⟩ (S'.base S2.fr) hn hΓ.of hO⟩⟩
/-- with the slots told -/
theorem g_setS {i : Nat} (h : Ev W K te Γ P) (S : S4 W K G1 G0 H0 Γ O σ G H) (k : ∀ v d G2 H2, P d → S4 W K G1 G0 H0 (Γ.set i (some d)) O (σ.set i (some v)) G2 H2 → D.nx (σ.set i (some v)) H2) : tAsg te (gName i) D σ H :=
  h σ G H S.env S.ok _ fun v d G2 H2 s p r => k v d G2 H2 p ((S.step s).set r)
theorem q_setS {i : Nat} (h : Ev W K te Γ P) (S : S4 W K G1 G0 H0 Γ O σ G H) (k : ∀ v d G2 H2, P d → S4 W K G1 G0 H0 (Γ.set i (some d)) O (σ.set i (some v)) G2 H2 → tz D (σ.set i (some v)) H2) : tSeq (tAsg te (gName i)) tz D σ H := g_setS (D := { D with nx := tz D }) h S k
theorem q_setNS {i : Nat} {P : List Dat → Prop} (h : EvN W K te Γ P) (S : S4 W K G1 G0 H0 Γ O σ G H) (k : ∀ l ds G2 H2, P ds → S4 W K G1 G0 H0 (Γ.set i (some (.adr l))) ((l, ds) :: O) (σ.set i (some (.ref l))) G2 H2 → tz D (σ.set i (some (.ref l))) H2) : tSeq (tAsg te (gName i)) tz D σ H :=
  h σ G H S.env S.ok _ fun p xs ds G2 H2 s h0 g2 h2 r pd => by
    have S2 := (S.step s).set (i := i) (Rep.adr p)
    refine k p ds G2 H2 pd ⟨S2.env, S2.ok, S2.stp, fun l es hm => ?_, ?_, S2.fr⟩
    · rcases List.mem_cons.mp hm with e | hm
      · cases e
        refine ⟨g2, ?_, fun hmm => ?_, xs, h2, r⟩
        · exact (back S.stp h0).1
        · obtain ⟨z, hz⟩ := W.tr S.ok.inv hmm
          rw [hz] at h0
          cases h0
      · exact S2.own l es hm
    · rw [List.map_cons, List.nodup_cons]
      refine ⟨fun hm => ?_, S.nd⟩
      obtain ⟨⟨l, es⟩, h1, e⟩ := List.mem_map.mp hm
      have e : l = p := e
      subst e
      obtain ⟨ys, hy, _⟩ := (S.own _ _ h1).at'
      rw [hy] at h0
      cases h0
/-- a, b = t, t told by what it is -/
theorem q_tupP {js : List Nat} {n : Nat} {R : List Dat → Prop} (h : Ev W K te Γ fun d => ∃ ds, d = .tup ds ∧ ds.length = n ∧ R ds) (hj : js.length = n) (S : S4 W K G1 G0 H0 Γ O σ G H) (k : ∀ ds σ2 G2 H2, R ds → S4 W K G1 G0 H0 (setsG Γ js ds) O σ2 G2 H2 → tz D σ2 H2) : tSeq (tAsg te (gTup K n (gNames js))) tz D σ H :=
  h σ G H S.env S.ok _ fun v d G2 H2 s ⟨ds, e, hn, hr⟩ r => by
    subst e
    obtain ⟨a, xs, rfl, hs, r⟩ := r.tup_inv
    have S2 := S.step s
    exact ⟨a, xs, rfl, ex_t S2.ok.ex hs, by rw [r.length]; exact hn, gNames_run (js := js) r (hj.trans hn.symm) S2 fun σ2 S3 => k ds σ2 G2 H2 hr S3⟩
/-- an item of a list at a drawn place, the list told by what its items are -/
theorem v_pickP {m : Int} (ha : Ev W K ta Γ fun d => ∃ ds, d = .lst ds ∧ (ds.length : Int) = m ∧ ∀ x ∈ ds, S x) (hb : Ev W K tb Γ (Drawn m)) : Ev W K (tOp (rIxL K) ta tb) Γ S := v_op ha hb fun x y ⟨ds, ex, hl, hs⟩ ⟨v, ey, h0, h1⟩ => by
  subst ex ey
  have hlt : v.toNat < ds.length := by omega
  have hx : ds[v.toNat]? = some ds[v.toNat] := List.getElem?_eq_getElem hlt
  have e : v = ((v.toNat : Nat) : Int) := by omega
  rw [e]
  intro G H x y k rx ry Q q
  exact rv_ixL hx G H x y k rx ry Q fun v d G2 H2 s p r => q v d G2 H2 s (by rw [p]; exact hs _ (List.getElem_mem hlt)) r
abbrev rMin2 : List V → Hp → VK → Prop := fun xs H Q => ∃ i j, xs = [.int i, .int j] ∧ Q (.int (if j < i then j else i)) H
theorem v_min2 {i j : Int} (ha : EvX W K ta Γ (.int i)) (hb : EvX W K tb Γ (.int j)) : EvX W K (tCB rMin2 (tCons ta (tCons tb tNil))) Γ (.int (if j < i then j else i)) := v_cbx (a_consx ha (a_consx hb a_nil)) fun G H xs k r Q q => by
  cases r with
  | cons r1 r =>
    cases r with
    | cons r2 r =>
      cases r
      cases r1
      cases r2
      exact ⟨i, j, rfl, q.here k (.int _) rfl⟩
/-- try: y = C(..) except CE as e: a suite; the slots told -/
theorem g_tryMakeS {C CE : Addr} {A : InitSig} {i j : Nat} {tsu : Addr → Value → Option Addr → TS} {Wout : WX} {ds : List Dat} {r : Option (List (Str × Dat))} (h : EvAX W K tA Γ ds) (ha : A ds r) (hx : PySem.W.exmOne K (.ref CE) (.ref CE) = some true) (S : S4 W K G1 G0 H0 Γ O σ G H)
    (k1 : r = none → ∀ (a : Addr) (H2 : Hp), tsu a (.ref CE) none { nx := fun σ' H' => D.nx (σ'.set i none) H', rt := D.rt, bk := fun σ' H' => D.bk (σ'.set i none) H', ct := fun σ' H' => D.ct (σ'.set i none) H' } (σ.set i (some (.ref a))) H2)
    (k2 : ∀ fsd, r = some fsd → ∀ v G2 H2, S4 W K G1 G0 H0 (Γ.set j (some (.obj C fsd))) O (σ.set j (some v)) G2 H2 → D.nx (σ.set j (some v)) H2) :
    tAsg (tMakeS C (spInit K C CE A) (WE (wAs K (.ref CE) i tsu Wout D)) tA) (gName j) D σ H := h σ G H S.env S.ok _ fun vs ds' G2 H2 s e rr => by
  subst e
  have S2 := S.step s
  refine make_run (C := C) (CE := CE) (Q := fun x H1 => gName j x σ H1 D.nx) (E := WE (wAs K (.ref CE) i tsu Wout D) σ) S2.ok rr ha (fun e H3 => ⟨true, hx, fun _ a _ => k1 e a H3, fun z => Bool.noConfusion z⟩) fun fsd e v d G3 H3 s3 p r3 => ?_
  subst p
  exact k2 fsd e v G3 H3 ((S2.step s3).set r3)
theorem q_tryMakeS {C CE : Addr} {A : InitSig} {i j : Nat} {tsu : Addr → Value → Option Addr → TS} {Wout : WX} {ds : List Dat} {r : Option (List (Str × Dat))} (h : EvAX W K tA Γ ds) (ha : A ds r) (hx : PySem.W.exmOne K (.ref CE) (.ref CE) = some true) (S : S4 W K G1 G0 H0 Γ O σ G H)
    (k1 : r = none → ∀ (a : Addr) (H2 : Hp) (D' : Ends), D'.rt = D.rt → tsu a (.ref CE) none D' (σ.set i (some (.ref a))) H2)
    (k2 : ∀ fsd, r = some fsd → ∀ v G2 H2, S4 W K G1 G0 H0 (Γ.set j (some (.obj C fsd))) O (σ.set j (some v)) G2 H2 → tz D (σ.set j (some v)) H2) :
    tSeq (fun D σ H => tAsg (tMakeS C (spInit K C CE A) (WE (wAs K (.ref CE) i tsu Wout D)) tA) (gName j) D σ H) tz D σ H := g_tryMakeS (D := { D with nx := tz D }) h ha hx S (fun e a H2 => k1 e a H2 _ rfl) k2
end
end Ly

set_option maxHeartbeats 4000000
namespace Ly
open PySem L2 PySem.Spec PyProof.Rows
section
variable {W : Wd} {K : PySem.W.Frag} {Γ : List (Option Dat)} {ta tb tc te tl tv tn : TE} {tt tu : TT} {tA : TA} {P R S : Dat → Prop} {d a b : Dat} {G1 G0 H0 G H G2 H2 : Hp} {O : List (Addr × List Dat)} {σ : L2.St} {D : Ends} {tz ts tw : TS}
/-- [f(x) for x in a tuple] -/
theorem n_lcMT {α : Type} {j : Nat} {us : List α} {f g : α → Dat} (h : EvX W K tl Γ (.tup (us.map f))) (hl : us.length < 100000) (he : ∀ x, x ∈ us → EvX W K te ((wipeG Γ [j]).set j (some (f x))) (g x)) :
    EvN W K (tLc (iTup K tl) (gName j) tYes te [j]) Γ (· = us.map g) :=
  n_lcT (fun i ds => ds = (us.take i).map g) h rfl (fun i d hd => by
    rw [List.getElem?_map] at hd
    cases e : us[i]? with
    | none =>
      rw [e] at hd
      cases hd
    | some x =>
      rw [e] at hd
      have ed : f x = d := Option.some.inj hd
      subst ed
      refine tn_each (fun ds e => by rw [e, List.length_map, List.length_take]; omega) fun ds e2 => (he x (List.mem_of_getElem? e)).imp fun d ed => ?_
      rw [e2, ed, List.take_succ, e]
      simp) fun ds e => by
    rw [List.length_map, List.take_length] at e
    exact e
/-- list(t), t told by what it is -/
theorem n_listTP {R : List Dat → Prop} (h : Ev W K ta Γ fun d => ∃ ds, d = .tup ds ∧ R ds) : EvN W K (tCB (rLst K) (tCons ta tNil)) Γ R := fun σ G H n k Q q =>
  h σ G H n k _ fun v d G2 H2 s ⟨ds, e, hr⟩ r => by
    subst e
    obtain ⟨a, xs, rfl, hx, rs⟩ := r.tup_inv
    have k2 := s.ok k
    refine ⟨a, xs, rfl, .inr (ex_t k2.ex hx), fun p hp => ?_⟩
    have st : Stp W G2 H2 G2 (upd H2 p (.lst xs)) := Stp.grow k2 (Ex.new hp)
    exact q p xs ds G2 _ (s.trans st) (back s hp).1 (back (Stp.refl k2) hp).2 upd_same rs hr
/-- xs[i] = e, xs the own list, which e reads too -/
theorem g_putK {l : Addr} {ds : List Dat} {i : Nat} {m : Int} (hi0 : Γ[i]? = some (some (.adr l))) (hn : NLs ds) (hG : NLG i 0 Γ) (hO : ∀ k es, (k, es) ∈ O → NLs es) (h : Ev W K te (Γ.set i (some (.lst ds))) P) (hp : ∀ d, P d → NL d) (hi : Ev W K tb (Γ.set i (some (.lst ds))) (Drawn m)) (hl : (ds.length : Int) = m) (S : S4 W K G1 G0 H0 Γ ((l, ds) :: O) σ G H)
    (k : ∀ (j : Nat) d G2 H2, j < ds.length → P d → S4 W K G1 G0 H0 Γ ((l, ds.set j d) :: O) σ G2 H2 → D.nx σ H2) : tAsg te (gSub (tVar i) tb rSetL) D σ H := by
  obtain ⟨t, e1, Gk, Sk, xs, x1, x2⟩ := S.keepT hi0
  refine h σ Gk H Sk.env Sk.ok _ fun v d G2 H2 s p r => ?_
  have S2 := Sk.step s
  refine ⟨.ref l, e1, ?_⟩
  refine hi σ G2 H2 S2.env S2.ok _ fun y e G4 H4 s4 ⟨j, ej, j0, j1⟩ r4 => ?_
  subst ej
  cases r4
  have S4' := S2.step s4
  have g4 : G4 l = some (.lst xs) := s4.gg _ _ (s.gg _ _ x1)
  have lenΓ : i < Γ.length := by
    rcases Nat.lt_or_ge i Γ.length with z | z
    · exact z
    · rw [List.getElem?_eq_none z] at hi0
      cases hi0
  have S5 := S4.thaw t e1 ⟨xs, g4, (x2.mono s.gg).mono s4.gg⟩ S4' hn (fun j d hj hd => by
    rw [List.getElem?_set_ne (Ne.symm hj)] at hd
    exact hG.of j d hj hd) hO
  have eΓ : ((Γ.set i (some (.lst ds))).set i (some (.adr l))) = Γ := by
    rw [List.set_set]
    apply List.ext_getElem?
    intro n
    by_cases hz : i = n
    · subst hz
      rw [List.getElem?_set_self lenΓ, hi0]
    · rw [List.getElem?_set_ne hz]
  rw [eΓ] at S5
  obtain ⟨ys, h1, h2⟩ := (S5.own l ds List.mem_cons_self).at'
  have hlen := h2.length
  refine ⟨l, ys, j, j.toNat, rfl, rfl, h1, ?_, ?_⟩
  · unfold ixN
    rw [if_pos j0, if_pos (by omega)]
  · exact k j.toNat d _ _ (by omega) p (S5.put (h2.set (Rep.thaw g4 (hp d p) (r.mono s4.gg)) j.toNat))
theorem q_putK {l : Addr} {ds : List Dat} {i : Nat} {m : Int} (hi0 : Γ[i]? = some (some (.adr l))) (hn : NLs ds) (hG : NLG i 0 Γ) (hO : ∀ k es, (k, es) ∈ O → NLs es) (h : Ev W K te (Γ.set i (some (.lst ds))) P) (hp : ∀ d, P d → NL d) (hi : Ev W K tb (Γ.set i (some (.lst ds))) (Drawn m)) (hl : (ds.length : Int) = m) (S : S4 W K G1 G0 H0 Γ ((l, ds) :: O) σ G H)
    (k : ∀ (j : Nat) d G2 H2, j < ds.length → P d → S4 W K G1 G0 H0 Γ ((l, ds.set j d) :: O) σ G2 H2 → tz D σ H2) : tSeq (tAsg te (gSub (tVar i) tb rSetL)) tz D σ H := g_putK (D := { D with nx := tz D }) hi0 hn hG hO h hp hi hl S k
end
/-! ## what the laws share -/
theorem nls_ints : ∀ ns : List Int, NLs (dI ns) := NLs.ints
theorem dI_set (xs : List Int) (j : Nat) (x : Int) : (dI xs).set j (.int x) = dI (xs.set j x) := (List.map_set ..).symm
theorem dI_add (xs : List Int) (x : Int) : dI xs ++ [.int x] = dI (xs ++ [x]) := by simp
theorem wk_tail : ∀ (n : Nat) (Γ : List (Option Dat)), Wk Γ (Γ.take n ++ List.replicate (Γ.length - n) none)
  | _, [] => by simp; exact .nil
  | 0, a :: Γ => by
    have h := wk_tail 0 Γ
    simp at h ⊢
    exact .drop h
  | n + 1, a :: Γ => by
    have h := wk_tail n Γ
    simp at h ⊢
    exact .keep h
theorem b_like {W : Wd} {K : PySem.W.Frag} {Γ : List (Option Dat)} {ta tb : TE} {d : Dat} {E : XK} {n : Nat} (ha : EvX W K ta Γ d) (hb : EvX W K tb Γ d) (h : Pl n d) : EvBX W K (tNot (tB (tCall (spOf Wd0 K (A_like n)) [] E (tCons ta (tCons tb tNil))))) Γ false :=
  b_notx (a := true) (b_Bx (v_call0x (a_consx ha (a_consx hb a_nil)) ⟨d, h, rfl, rfl⟩))
/-- many draws -/
def IsDr (m : Int) (d : Dat) : Prop := ∃ ns : List Int, d = .lst (dI ns) ∧ (ns.length : Int) = m ∧ InB 4096 ns
def A_some (p : Addr) : Sig := fun ds P => ∃ m : Int, 0 ≤ m ∧ m ≤ 1000 ∧ ds = [.adr p, .int m] ∧ P = IsDr m
def spSome (K : PySem.W.Frag) : Sp := fun vs H Q E => ∃ p c ns, spOf (WP p c ns) K (A_some p) vs H Q E
/-- a def that draws, by its signature -/
def spD (K : PySem.W.Frag) (A : Addr → Sig) : Sp := fun vs H Q E => ∃ p c ns, spOf (WP p c ns) K (A p) vs H Q E
theorem spD_len {K : PySem.W.Frag} {A : Addr → Sig} {n : Nat} (h : ∀ p ds P, A p ds P → ds.length = n) : ∀ vs H Q E, spD K A vs H Q E → vs.length = n := fun vs H Q E ⟨p, _, _, q⟩ => spOf_len (h p) vs H Q E q
section
variable {W : Wd} {K : PySem.W.Frag} {Γ : List (Option Dat)} {ta tb tc te : TE} {tA : TA} {p c : Addr} {ns : List Int} {E : XK} {P : Dat → Prop}
theorem v_some {m : Int} (ha : EvX (WP p c ns) K ta Γ (.adr p)) (hb : EvX (WP p c ns) K tb Γ (.int m)) (h0 : 0 ≤ m) (h1 : m ≤ 1000) : Ev (WP p c ns) K (tCall (spSome K) [] E (tCons ta (tCons tb tNil))) Γ (IsDr m) := fun σ G H n k Q q =>
  a_consx ha (a_consx hb a_nil) σ G H n k _ fun vs ds G2 H2 s e r => by
    subst e
    rw [List.append_nil]
    exact ⟨p, c, ns, G2, _, _, s.ok k, r, ⟨m, h0, h1, rfl, rfl⟩, q.step s⟩
theorem v_callD {A : Addr → Sig} {R : List Dat → Prop} (h : EvA (WP p c ns) K tA Γ R) (hs : ∀ ds, R ds → A p ds P) : Ev (WP p c ns) K (tCall (spD K A) [] E tA) Γ P := fun σ G H n k Q q =>
  h σ G H n k _ fun vs ds G2 H2 s e r => by
    rw [List.append_nil]
    exact ⟨p, c, ns, G2, _, _, s.ok k, r, hs ds e, q.step s⟩
/-- a drawn number out of one that is known -/
theorem v_part {a j m : Int} (ha : EvX W K ta Γ (.int a)) (hj : 0 < j ∧ j < 1073741824) (hm : 0 < m) (hb : EvX W K tb Γ (.int m)) : Ev W K (tOp (rI (fun _ j => 0 < j) fun i j => .int (i % j)) (tOp (rI CDiv fun i j => .int (i / j)) ta (tC (.int j))) tb) Γ (Drawn m) :=
  EvX.any (v_mod (v_fdiv ha v_int hj) hb hm) ⟨_, rfl, Int.emod_nonneg _ (by omega), Int.emod_lt_of_pos _ hm⟩
theorem v_rest {a m : Int} (ha : EvX W K ta Γ (.int a)) (hm : 0 < m) (hb : EvX W K tb Γ (.int m)) : Ev W K (tOp (rI (fun _ j => 0 < j) fun i j => .int (i % j)) ta tb) Γ (Drawn m) :=
  EvX.any (v_mod ha hb hm) ⟨_, rfl, Int.emod_nonneg _ (by omega), Int.emod_lt_of_pos _ hm⟩
end
theorem drawn_at {m : Int} {ns : List Int} (h : InB m ns) {i : Nat} (hi : i < ns.length) : ∃ a, ns[i]? = some a ∧ 0 ≤ a ∧ a < m := ⟨ns[i], List.getElem?_eq_getElem hi, h _ (List.getElem_mem _)⟩
end Ly
namespace Ly
open PySem L2 PySem.Spec PyProof.Rows
section
variable {W : Wd} {K : PySem.W.Frag} {Γ : List (Option Dat)} {te tn : TE}
/-- many drawn numbers, the place told to be below -/
theorem n_lcB {j : Nat} {b m : Int} (hn : EvX W K tn Γ (.int m)) (h0 : 0 ≤ m) (hm : m ≤ 10000) (he : ∀ i : Nat, (i : Int) < m → Ev W K te ((wipeG Γ [j]).set j (some (.int (i : Int)))) (Drawn b)) :
    EvN W K (tLc (iRng1 (tCons tn tNil)) (gName j) tYes te [j]) Γ fun ds => ∃ ns, ds = dI ns ∧ (ns.length : Int) = m ∧ InB b ns :=
  n_lcR (fun _ i ds => Each (fun _ => Drawn b) i ds) (EvA.imp (a_cons hn a_nil) fun ds ⟨d, r, e, ed, er⟩ => ⟨m, by rw [e, ed, er], ⟨by omega, by omega⟩, Each.nil, fun i hi => tn_P (by omega) (he i hi), fun ds h => by
    obtain ⟨ns, h2, h3, h4⟩ := each_drawn h
    exact ⟨ns, h2, by omega, h4⟩⟩)
end
end Ly

set_option maxHeartbeats 4000000
namespace Ly
open PySem L2 PySem.Spec PyProof.Rows
section
variable {X : Cx} {k j : Nat} {x : Str} {sp : Sp} {dvs : List V} {p pos : Pos}
/-- a call without arguments -/
theorem pe_c0 (c : C8.Cal X.prog X.w X.K X.mg X.base k x sp dvs) (hr : Room j X.A) (hk : k ≤ j) (hg : Gl X x) (hdb : (x == ("__debug__" : Str)) = false := by decide) : PE X (.Call (.Name x p) [] [] pos) (tCall sp dvs E0 tNil) := by
  obtain ⟨f, fd, ps, ds, F, hm, kp, b, d⟩ := c.ex
  exact pe_call0 F (hr.mono hk) hg hm kp b d pass0 hdb
end
theorem wk_none : ∀ Γ : List (Option Dat), Wk Γ (List.replicate Γ.length none)
  | [] => .nil
  | _ :: Γ => .drop (wk_none Γ)
section
variable {W : Wd} {K : PySem.W.Frag} {Γ : List (Option Dat)} {ta tb tc te tl tv tn : TE} {tt tu : TT} {tA : TA} {P S : Dat → Prop} {d a b : Dat} {G1 G0 H0 G H G2 H2 : Hp} {O : List (Addr × List Dat)} {σ : L2.St} {D : Ends} {tz ts tw : TS}
/-- the same, the place told by what it is -/
theorem g_putR {l : Addr} {ds : List Dat} {i : Nat} {R : Nat → Prop} (hi0 : Γ[i]? = some (some (.adr l))) (hn : NLs ds) (hG : NLG i 0 Γ) (hO : ∀ k es, (k, es) ∈ O → NLs es) (h : Ev W K te (Γ.set i (some (.lst ds))) P) (hp : ∀ d, P d → NL d) (hi : Ev W K tb (Γ.set i (some (.lst ds))) fun e => ∃ j : Nat, e = .int (j : Int) ∧ j < ds.length ∧ R j) (S : S4 W K G1 G0 H0 Γ ((l, ds) :: O) σ G H)
    (k : ∀ (j : Nat) d G2 H2, j < ds.length → R j → P d → S4 W K G1 G0 H0 Γ ((l, ds.set j d) :: O) σ G2 H2 → D.nx σ H2) : tAsg te (gSub (tVar i) tb rSetL) D σ H := by
  obtain ⟨t, e1, Gk, Sk, xs, x1, x2⟩ := S.keepT hi0
  refine h σ Gk H Sk.env Sk.ok _ fun v d G2 H2 s p r => ?_
  have S2 := Sk.step s
  refine ⟨.ref l, e1, ?_⟩
  refine hi σ G2 H2 S2.env S2.ok _ fun y e G4 H4 s4 ⟨j, ej, j0, j1⟩ r4 => ?_
  subst ej
  cases r4
  have S4' := S2.step s4
  have g4 : G4 l = some (.lst xs) := s4.gg _ _ (s.gg _ _ x1)
  have lenΓ : i < Γ.length := by
    rcases Nat.lt_or_ge i Γ.length with z | z
    · exact z
    · rw [List.getElem?_eq_none z] at hi0
      cases hi0
  have S5 := S4.thaw t e1 ⟨xs, g4, (x2.mono s.gg).mono s4.gg⟩ S4' hn (fun j d hj hd => by
    rw [List.getElem?_set_ne (Ne.symm hj)] at hd
    exact hG.of j d hj hd) hO
  have eΓ : ((Γ.set i (some (.lst ds))).set i (some (.adr l))) = Γ := by
    rw [List.set_set]
    apply List.ext_getElem?
    intro n
    by_cases hz : i = n
    · subst hz
      rw [List.getElem?_set_self lenΓ, hi0]
    · rw [List.getElem?_set_ne hz]
  rw [eΓ] at S5
  obtain ⟨ys, h1, h2⟩ := (S5.own l ds List.mem_cons_self).at'
  have hlen := h2.length
  refine ⟨l, ys, (j : Int), j, rfl, rfl, h1, ?_, ?_⟩
  · unfold ixN
    rw [if_pos (by omega), if_pos (by omega)]
    rfl
  · exact k j d _ _ j0 j1 p (S5.put (h2.set (Rep.thaw g4 (hp d p) (r.mono s4.gg)) j))
theorem q_putR {l : Addr} {ds : List Dat} {i : Nat} {R : Nat → Prop} (hi0 : Γ[i]? = some (some (.adr l))) (hn : NLs ds) (hG : NLG i 0 Γ) (hO : ∀ k es, (k, es) ∈ O → NLs es) (h : Ev W K te (Γ.set i (some (.lst ds))) P) (hp : ∀ d, P d → NL d) (hi : Ev W K tb (Γ.set i (some (.lst ds))) fun e => ∃ j : Nat, e = .int (j : Int) ∧ j < ds.length ∧ R j) (S : S4 W K G1 G0 H0 Γ ((l, ds) :: O) σ G H)
    (k : ∀ (j : Nat) d G2 H2, j < ds.length → R j → P d → S4 W K G1 G0 H0 Γ ((l, ds.set j d) :: O) σ G2 H2 → tz D σ H2) : tSeq (tAsg te (gSub (tVar i) tb rSetL)) tz D σ H := g_putR (D := { D with nx := tz D }) hi0 hn hG hO h hp hi S k
end
end Ly

set_option maxHeartbeats 4000000
namespace Ly
open PySem L2 PySem.Spec PyProof.Rows
section
variable {X : Cx}
/-- a op= b of ints under a condition -/
def ipC (C : Int → Int → Prop) (f : Int → Int → Int) : TIp := fun x y H Q => ∃ i j, x = .int i ∧ y = .int j ∧ C i j ∧ Q (.int (f i j)) H
theorem ip_mulW : PIp X .Mult (ipC CMulW fun i j => i * j) := by
  intro pins s σ H x y v u Q I ra rb ⟨i, j, ex, ey, c, q⟩
  subst ex ey
  obtain ⟨t, rfl⟩ := ra
  obtain ⟨t', rfl⟩ := rb
  exact imul_int ⟨.int _, H, I.tok _, ⟨_, rfl⟩, q⟩ c.ok
theorem ip_fdivW : PIp X .FloorDiv (ipC CDivW fun i j => i / j) := by
  intro pins s σ H x y v u Q I ra rb ⟨i, j, ex, ey, c, q⟩
  subst ex ey
  obtain ⟨t, rfl⟩ := ra
  obtain ⟨t', rfl⟩ := rb
  have h1 : (0 : Int) < j := c.1
  exact ifloordiv_int (by omega) (by rw [Int.fdiv_eq_ediv_of_nonneg i (by omega)]; exact ⟨.int _, H, I.tok _, ⟨_, rfl⟩, q⟩) (.inl (PyProof.noPylong_of_log2 c.2))
end
theorem log_lt {i : Int} {k : Nat} (h : i.natAbs < 2 ^ k) (hk : 0 < k) : i.natAbs.log2 < k := by
  by_cases z : i.natAbs = 0
  · rw [z]
    exact hk
  · exact (Nat.log2_lt z).mpr h
theorem abs_lt {i : Int} {m : Nat} (h0 : 0 ≤ i) (h : i < (m : Int)) : i.natAbs < m := by omega
theorem mulW_of {i j : Int} (hi : i.natAbs < 2 ^ 250) (hj : j.natAbs < 2 ^ 250) : CMulW i j := by
  have h1 := log_lt hi (by omega)
  have h2 := log_lt hj (by omega)
  show _ + _ < 1000000
  omega
theorem divW_of {i j : Int} (h0 : 0 < j) (hj : j.natAbs < 2 ^ 250) : CDivW i j := ⟨h0, by have := log_lt hj (by omega); omega⟩
section
variable {W : Wd} {K : PySem.W.Frag} {Γ : List (Option Dat)} {ta tb tc te tl tv tn : TE} {tt tu : TT} {tA : TA} {P R S : Dat → Prop} {d a b : Dat} {G1 G0 H0 G H G2 H2 : Hp} {O : List (Addr × List Dat)} {σ : L2.St} {D : Ends} {tz ts tw : TS}
theorem v_mulW {i j : Int} (ha : EvX W K ta Γ (.int i)) (hb : EvX W K tb Γ (.int j)) (hc : CMulW i j) : EvX W K (tOp (rI CMulW fun i j => .int (i * j)) ta tb) Γ (.int (i * j)) := v_opx ha hb (rv_I (g := fun i j => .int (i * j)) (fun _ => .int _) hc)
theorem v_fdivW {i j : Int} (ha : EvX W K ta Γ (.int i)) (hb : EvX W K tb Γ (.int j)) (hc : CDivW i j) : EvX W K (tOp (rI CDivW fun i j => .int (i / j)) ta tb) Γ (.int (i / j)) := v_opx ha hb (rv_I (g := fun i j => .int (i / j)) (fun _ => .int _) hc)
theorem g_augC {i : Nat} {C : Int → Int → Prop} {f : Int → Int → Int} {a b : Int} (hx : Γ[i]? = some (some (.int a))) (h : EvX W K te Γ (.int b)) (hc : C a b) (S : S4 W K G1 G0 H0 Γ O σ G H) (k : ∀ σ2 G2 H2, S4 W K G1 G0 H0 (Γ.set i (some (.int (f a b)))) O σ2 G2 H2 → D.nx σ2 H2) : tAug i te (ipC C f) D σ H := by
  obtain ⟨v, h1, h2⟩ := S.env.at' i _ hx
  cases h2
  refine ⟨.int a, h1, h σ G H S.env S.ok _ fun y d G2 H2 s e r => ?_⟩
  subst e
  cases r
  exact ⟨a, b, rfl, rfl, hc, k _ G2 H2 ((S.step s).set (.int _))⟩
theorem q_augC {i : Nat} {C : Int → Int → Prop} {f : Int → Int → Int} {a b : Int} (hx : Γ[i]? = some (some (.int a))) (h : EvX W K te Γ (.int b)) (hc : C a b) (S : S4 W K G1 G0 H0 Γ O σ G H) (k : ∀ σ2 G2 H2, S4 W K G1 G0 H0 (Γ.set i (some (.int (f a b)))) O σ2 G2 H2 → tz D σ2 H2) : tSeq (tAug i te (ipC C f)) tz D σ H := g_augC (D := { D with nx := tz D }) hx h hc S k
theorem v_gcd {i j : Int} (ha : EvX W K ta Γ (.int i)) (hb : EvX W K tb Γ (.int j)) : EvX W K (tCB rGcd (tCons ta (tCons tb tNil))) Γ (.int ((Nat.gcd i.natAbs j.natAbs : Nat) : Int)) := v_cbx (a_consx ha (a_consx hb a_nil)) fun G H xs k r Q q => by
  cases r with
  | cons r1 r =>
    cases r with
    | cons r2 r =>
      cases r
      cases r1
      cases r2
      exact ⟨i, j, rfl, q.here k (.int _) rfl⟩
/-- [..] * n -/
theorem n_rep {ds : List Dat} {n : Nat} (ha : EvN W K ta Γ (· = ds)) (hb : EvX W K tb Γ (.int (n : Int))) (hz : ds.length * n ≤ 100000) (hn : n ≤ 100000) : EvN W K (tOp rRep ta tb) Γ (· = (List.replicate n ds).flatten) := fun σ G H env k Q q =>
  ha σ G H env k _ fun p xs es G2 H2 s h0 g2 h2 r e => by
    subst e
    have k2 := s.ok k
    refine hb σ G2 H2 (env.mono s.gg) k2 _ fun y dy G3 H3 t ey ry => ?_
    subst ey
    cases ry
    have hm : ¬ W.m p := fun hm => by
      obtain ⟨z, hz⟩ := W.tr k.inv hm
      rw [hz] at h0
      cases h0
    have h3 := t.hh p _ hm h2
    refine ⟨p, n, xs, rfl, rfl, h3, by omega, by omega, by rw [r.length, Int.toNat_natCast]; exact sz_of hz, fun l hl => ?_⟩
    have k3 := t.ok k2
    have st := s.trans t
    rw [Int.toNat_natCast]
    refine q l _ _ G3 _ (st.trans (Stp.grow k3 (Ex.new hl))) (back st hl).1 (back (Stp.refl k3) hl).2 upd_same ?_ rfl
    have r3 := r.mono t.gg
    clear h3 hl hn hz hb q
    induction n with
    | zero => exact .nil
    | succ n ih =>
      rw [List.replicate_succ, List.replicate_succ, List.flatten_cons, List.flatten_cons]
      exact r3.append ih
abbrev rInsert : V → List V → Hp → VK → Prop := fun x vs H Q => ∃ (l : Addr) (xs : List V) (i : Int) (y : V), x = .ref l ∧ vs = [.int i, y] ∧ H l = some (.lst xs) ∧ xs.length < sizeLine ∧ 0 ≤ i ∧ i < 2 ^ 63 ∧ Q .non (upd H l (.lst (xs.take i.toNat ++ [y] ++ xs.drop i.toNat)))
/-- xs.insert(i, e), xs the own list, which both read too -/
theorem g_insR {l : Addr} {ds : List Dat} {i : Nat} {R : Nat → Prop} (hi0 : Γ[i]? = some (some (.adr l))) (hn : NLs ds) (hG : NLG i 0 Γ) (hO : ∀ k es, (k, es) ∈ O → NLs es) (hi : Ev W K tb (Γ.set i (some (.lst ds))) fun e => ∃ j : Nat, e = .int (j : Int) ∧ j ≤ ds.length ∧ R j) (h : Ev W K te (Γ.set i (some (.lst ds))) P) (hp : ∀ d, P d → NL d) (hl : ds.length < 90000) (S : S4 W K G1 G0 H0 Γ ((l, ds) :: O) σ G H)
    (k : ∀ (j : Nat) d G2 H2, j ≤ ds.length → R j → P d → S4 W K G1 G0 H0 Γ ((l, ds.take j ++ [d] ++ ds.drop j) :: O) σ G2 H2 → D.nx σ H2) : tDrop (tBM K "list" rInsert (tVar i) (tCons tb (tCons te tNil))) D σ H := by
  obtain ⟨t, e1, Gk, Sk, xs, x1, x2⟩ := S.keepT hi0
  refine ⟨.ref l, e1, .inl ⟨rfl, xs, l_of (Sk.ok.ex _ _ x1)⟩, ?_⟩
  refine hi σ Gk H Sk.env Sk.ok _ fun y e G2 H2 s ⟨j, ej, j0, j1⟩ r => ?_
  subst ej
  cases r
  have S2 := Sk.step s
  refine h σ G2 H2 S2.env S2.ok _ fun v d G4 H4 s4 p r4 => ?_
  have S4' := S2.step s4
  have g4 : G4 l = some (.lst xs) := s4.gg _ _ (s.gg _ _ x1)
  have lenΓ : i < Γ.length := by
    rcases Nat.lt_or_ge i Γ.length with z | z
    · exact z
    · rw [List.getElem?_eq_none z] at hi0
      cases hi0
  have S5 := S4.thaw t e1 ⟨xs, g4, (x2.mono s.gg).mono s4.gg⟩ S4' hn (fun j d hj hd => by
    rw [List.getElem?_set_ne (Ne.symm hj)] at hd
    exact hG.of j d hj hd) hO
  have eΓ : ((Γ.set i (some (.lst ds))).set i (some (.adr l))) = Γ := by
    rw [List.set_set]
    apply List.ext_getElem?
    intro n
    by_cases hz : i = n
    · subst hz
      rw [List.getElem?_set_self lenΓ, hi0]
    · rw [List.getElem?_set_ne hz]
  rw [eΓ] at S5
  obtain ⟨ys, h1, h2⟩ := (S5.own l ds List.mem_cons_self).at'
  have hlen := h2.length
  refine ⟨l, ys, (j : Int), v, rfl, rfl, h1, by rw [hlen]; exact sz_lt (by omega), by omega, by omega, ?_⟩
  rw [Int.toNat_natCast]
  exact k j d _ _ j0 j1 p (S5.put (((h2.take j).append (.cons (Rep.thaw g4 (hp d p) r4) .nil)).append (h2.drop j)))
/-- for a, b in pairs: over a list, a tuple -/
theorem g_forL2 {ds : List Dat} {tl : TE} {js : List Nat} {tb : TS} {us : Dat → List Dat} (h : EvX W K tl Γ (.lst ds)) (hu : ∀ d, d ∈ ds → d = .tup (us d) ∧ (us d).length = js.length) (S : S4 W K G1 G0 H0 Γ O σ G H) (I : Nat → List (Option Dat) → List (Addr × List Dat) → Prop) (h0 : I 0 Γ O)
    (hs : ∀ G1 (i : Nat) d Γ' O' σ' G' H', ds[i]? = some d → I i Γ' O' → S4 W K G1 G0 H0 (setsG Γ' js (us d)) O' σ' G' H' → tb { D with nx := Word W K G1 G0 H0 (I (i + 1)), ct := Word W K G1 G0 H0 (I (i + 1)), bk := D.nx } σ' H')
    (hd : ∀ Γ' O' σ' G' H', I ds.length Γ' O' → S4 W K G1 G0 H0 Γ' O' σ' G' H' → D.nx σ' H') : tFor (iList K tl) (gTup K js.length (gNames js)) tb D σ H :=
  h σ G H S.env S.ok _ fun v d G2 H2 s e r => by
    subst e
    obtain ⟨a, xs, rfl, hx, r⟩ := r.lst_inv
    have S2 := S.step s
    have hl := r.length
    refine ⟨a, rfl, ⟨xs, ex_l S2.ok.ex hx⟩, for_list (fun i σ' H' => Word W K G2 G0 H0 (I i) σ' H') ⟨Γ, O, G2, h0, S2.here⟩ (fun i σ' H' _ ⟨Γ', O', G', _, S'⟩ => ex_l (S'.fr.trans S'.ok.ex) hx) (fun i x σ' H' hi ⟨Γ', O', G', hI, S'⟩ => ?_) (fun σ' H' ⟨Γ', O', G', hI, S'⟩ => hd Γ' O' σ' G' H' (by rw [← hl]; exact hI) (S'.base S2.fr))⟩
    obtain ⟨d, hd', rd⟩ := r.getV hi
    obtain ⟨eu, el⟩ := hu d (List.mem_of_getElem? hd')
    rw [eu] at rd
    obtain ⟨p, zs, rfl, hz, rz⟩ := rd.tup_inv
    exact ⟨p, zs, rfl, ex_t (S'.fr.trans S'.ok.ex) hz, by rw [rz.length]; exact el, gNames_run (js := js) (rz.mono S'.fr) el.symm S' fun σ2 S3 => hs G2 i d Γ' O' σ2 G' H' hd' hI S3⟩
theorem q_forL2 {ds : List Dat} {tl : TE} {js : List Nat} {tb : TS} {us : Dat → List Dat} (h : EvX W K tl Γ (.lst ds)) (hu : ∀ d, d ∈ ds → d = .tup (us d) ∧ (us d).length = js.length) (S : S4 W K G1 G0 H0 Γ O σ G H) (I : Nat → List (Option Dat) → List (Addr × List Dat) → Prop) (h0 : I 0 Γ O)
    (hs : ∀ G1 (i : Nat) d Γ' O' σ' G' H', ds[i]? = some d → I i Γ' O' → S4 W K G1 G0 H0 (setsG Γ' js (us d)) O' σ' G' H' → tb { D with nx := Word W K G1 G0 H0 (I (i + 1)), ct := Word W K G1 G0 H0 (I (i + 1)), bk := tz D } σ' H')
    (hd : ∀ Γ' O' σ' G' H', I ds.length Γ' O' → S4 W K G1 G0 H0 Γ' O' σ' G' H' → tz D σ' H') : tSeq (tFor (iList K tl) (gTup K js.length (gNames js)) tb) tz D σ H := g_forL2 (D := { D with nx := tz D }) h hu S I h0 hs hd
theorem q_forT2 {ds : List Dat} {tl : TE} {js : List Nat} {tb : TS} {us : Dat → List Dat} (h : EvX W K tl Γ (.tup ds)) (hu : ∀ d, d ∈ ds → d = .tup (us d) ∧ (us d).length = js.length) (S : S4 W K G1 G0 H0 Γ O σ G H) (I : Nat → List (Option Dat) → List (Addr × List Dat) → Prop) (h0 : I 0 Γ O)
    (hs : ∀ G1 (i : Nat) d Γ' O' σ' G' H', ds[i]? = some d → I i Γ' O' → S4 W K G1 G0 H0 (setsG Γ' js (us d)) O' σ' G' H' → tb { D with nx := Word W K G1 G0 H0 (I (i + 1)), ct := Word W K G1 G0 H0 (I (i + 1)), bk := tz D } σ' H')
    (hd : ∀ Γ' O' σ' G' H', I ds.length Γ' O' → S4 W K G1 G0 H0 Γ' O' σ' G' H' → tz D σ' H') : tSeq (tFor (iTup K tl) (gTup K js.length (gNames js)) tb) tz D σ H :=
  h σ G H S.env S.ok _ fun v d G2 H2 s e r => by
    subst e
    obtain ⟨a, xs, rfl, hx, r⟩ := r.tup_inv
    have S2 := S.step s
    have hl := r.length
    refine ⟨a, rfl, ⟨xs, ex_t S2.ok.ex hx⟩, for_tup (fun i σ' H' => Word W K G2 G0 H0 (I i) σ' H') ⟨Γ, O, G2, h0, S2.here⟩ (fun i σ' H' _ ⟨Γ', O', G', _, S'⟩ => ex_t (S'.fr.trans S'.ok.ex) hx) (fun i x σ' H' hi ⟨Γ', O', G', hI, S'⟩ => ?_) (fun σ' H' ⟨Γ', O', G', hI, S'⟩ => hd Γ' O' σ' G' H' (by rw [← hl]; exact hI) (S'.base S2.fr))⟩
    obtain ⟨d, hd', rd⟩ := r.getV hi
    obtain ⟨eu, el⟩ := hu d (List.mem_of_getElem? hd')
    rw [eu] at rd
    obtain ⟨p, zs, rfl, hz, rz⟩ := rd.tup_inv
    exact ⟨p, zs, rfl, ex_t (S'.fr.trans S'.ok.ex) hz, by rw [rz.length]; exact el, gNames_run (js := js) (rz.mono S'.fr) el.symm S' fun σ2 S3 => hs G2 i d Γ' O' σ2 G' H' hd' hI S3⟩
/-- for k in range(lo, hi) -/
theorem g_for2 {lo hi : Int} {j : Nat} {tb : TS} (h : EvAX W K tA Γ [.int lo, .int hi]) (h1 : -100000 ≤ lo ∧ lo ≤ 100000 ∧ -100000 ≤ hi ∧ hi ≤ 100000) (S : S4 W K G1 G0 H0 Γ O σ G H) (I : Nat → List (Option Dat) → List (Addr × List Dat) → Prop) (h0 : I 0 Γ O)
    (hs : ∀ (i : Nat) Γ' O' σ' G' H', lo + i < hi → I i Γ' O' → S4 W K G1 G0 H0 (Γ'.set j (some (.int (lo + i)))) O' σ' G' H' → tb { D with nx := Word W K G1 G0 H0 (I (i + 1)), ct := Word W K G1 G0 H0 (I (i + 1)), bk := D.nx } σ' H')
    (hd : ∀ Γ' O' σ' G' H', I (hi - lo).toNat Γ' O' → S4 W K G1 G0 H0 Γ' O' σ' G' H' → D.nx σ' H') : tFor (iRng2 tA) (gName j) tb D σ H :=
  h σ G H S.env S.ok _ fun vs ds G2 H2 s e r => by
    subst e
    cases r with
    | cons r r0 =>
      cases r0 with
      | cons r' r0 =>
        cases r0
        cases r
        cases r'
        exact ⟨lo, hi, rfl, ⟨by omega, by omega, by omega, by omega⟩, g_forR (lo := lo) I h0 (S.step s) (fun i Γ' O' σ' G' H' hlt hI S' => hs i Γ' O' σ' G' H' (by omega) hI S') hd⟩
theorem q_for2 {lo hi : Int} {j : Nat} {tb : TS} (h : EvAX W K tA Γ [.int lo, .int hi]) (h1 : -100000 ≤ lo ∧ lo ≤ 100000 ∧ -100000 ≤ hi ∧ hi ≤ 100000) (S : S4 W K G1 G0 H0 Γ O σ G H) (I : Nat → List (Option Dat) → List (Addr × List Dat) → Prop) (h0 : I 0 Γ O)
    (hs : ∀ (i : Nat) Γ' O' σ' G' H', lo + i < hi → I i Γ' O' → S4 W K G1 G0 H0 (Γ'.set j (some (.int (lo + i)))) O' σ' G' H' → tb { D with nx := Word W K G1 G0 H0 (I (i + 1)), ct := Word W K G1 G0 H0 (I (i + 1)), bk := tz D } σ' H')
    (hd : ∀ Γ' O' σ' G' H', I (hi - lo).toNat Γ' O' → S4 W K G1 G0 H0 Γ' O' σ' G' H' → tz D σ' H') : tSeq (tFor (iRng2 tA) (gName j) tb) tz D σ H := g_for2 (D := { D with nx := tz D }) h h1 S I h0 hs hd
/-- for k in range(lo, hi, step), step positive -/
theorem g_for3 {lo hi c : Int} {n : Nat} {j : Nat} {tb : TS} (h : EvAX W K tA Γ [.int lo, .int hi, .int c]) (hc : RgC lo hi c n) (S : S4 W K G1 G0 H0 Γ O σ G H) (I : Nat → List (Option Dat) → List (Addr × List Dat) → Prop) (h0 : I 0 Γ O)
    (hs : ∀ (i : Nat) Γ' O' σ' G' H', i < n → I i Γ' O' → S4 W K G1 G0 H0 (Γ'.set j (some (.int (lo + (i : Int) * c)))) O' σ' G' H' → tb { D with nx := Word W K G1 G0 H0 (I (i + 1)), ct := Word W K G1 G0 H0 (I (i + 1)), bk := D.nx } σ' H')
    (hd : ∀ Γ' O' σ' G' H', I n Γ' O' → S4 W K G1 G0 H0 Γ' O' σ' G' H' → D.nx σ' H') : tFor (iRng3 tA) (gName j) tb D σ H :=
  h σ G H S.env S.ok _ fun vs ds G2 H2 s e r => by
    subst e
    cases r with
    | cons r r0 =>
      cases r0 with
      | cons r' r0 =>
        cases r0 with
        | cons r'' r0 =>
          cases r0
          cases r
          cases r'
          cases r''
          exact ⟨lo, hi, c, n, rfl, hc, for_rangeC (fun i σ H => Word W K G1 G0 H0 (I i) σ H) ⟨Γ, O, G2, h0, S.step s⟩ (fun i σ' H' hlt ⟨Γ', O', G', hI, S'⟩ => hs i Γ' O' _ G' H' hlt hI (S'.set (.int _))) (fun σ' H' ⟨Γ', O', G', hI, S'⟩ => hd Γ' O' σ' G' H' hI S')⟩
/-- [e for x in range(lo, hi) if t] -/
theorem n_lcR2 {lo hi : Int} {j : Nat} {R : List Dat → Prop} (A : Nat → List Dat → Prop) (h : EvAX W K tA Γ [.int lo, .int hi]) (h1 : -100000 ≤ lo ∧ lo ≤ 100000 ∧ -100000 ≤ hi ∧ hi ≤ 100000) (h0 : A 0 []) (ht : ∀ i : Nat, lo + i < hi → Tn W K tt te ((wipeG Γ [j]).set j (some (.int (lo + i)))) (A i) (A (i + 1))) (hR : ∀ ds, A (hi - lo).toNat ds → R ds) :
    EvN W K (tLc (iRng2 tA) (gName j) tt te [j]) Γ R := fun σ G H n k Q q =>
  h σ G H n k _ fun vs ds G2 H2 s e r => by
    subst e
    cases r with
    | cons r r0 =>
      cases r0 with
      | cons r' r0 =>
        cases r0
        cases r
        cases r'
        have k2 := s.ok k
        refine ⟨lo, hi, rfl, ⟨by omega, by omega, by omega, by omega⟩, fun Dl hD => lc_range (lo := lo) (n := (hi - lo).toNat) (fun i H' => Cm W K G2 H2 Dl (A i) H') (cm_start k2 hD h0) (fun i H' hlt p => ?_) (fun H' p => ?_)⟩
        · exact ⟨wipe1, cm_turn k2 (fun G' e => env_turn (n.mono (s.gg.trans e)) (.int _)) p (ht i (by omega))⟩
        · exact cm_end p fun p xs ds G3 H3 s3 h0 g3 h3 r a => q p xs ds G3 H3 (s.trans s3) (back s h0).1 g3 h3 r (hR ds a)
end
end Ly

set_option maxHeartbeats 4000000
namespace Ly
open PySem L2 PySem.Spec PyProof.Rows
theorem Wk.set {Γ Γ' : List (Option Dat)} (w : Wk Γ Γ') : ∀ (i : Nat) (x : Option Dat), Wk (Γ.set i x) (Γ'.set i x) := by
  induction w with
  | nil => exact fun _ _ => .nil
  | keep w ih =>
    intro i x
    cases i with
    | zero => exact .keep w
    | succ i => exact .keep (ih i x)
  | drop w ih =>
    intro i x
    cases i with
    | zero => exact .keep w
    | succ i => exact .drop (ih i x)
section
variable {W : Wd} {K : PySem.W.Frag} {Γ : List (Option Dat)} {ta tb tc te tl tv tn : TE} {tt tu : TT} {tA : TA} {P R S : Dat → Prop} {d a b : Dat} {G1 G0 H0 G H G2 H2 : Hp} {O : List (Addr × List Dat)} {σ : L2.St} {D : Ends} {tz ts tw : TS}
/-- a, b = x, y -/
theorem g_par {i j : Nat} {x y : Dat} (h : EvAX W K tA Γ [x, y]) (S : S4 W K G1 G0 H0 Γ O σ G H) (k : ∀ σ2 G2 H2, S4 W K G1 G0 H0 ((Γ.set i (some x)).set j (some y)) O σ2 G2 H2 → D.nx σ2 H2) : tPar i j tA D σ H :=
  h σ G H S.env S.ok _ fun vs ds G2 H2 s e r => by
    subst e
    cases r with
    | cons r r0 =>
      cases r0 with
      | cons r' r0 =>
        cases r0
        exact ⟨_, _, rfl, k _ G2 H2 (((S.step s).set r).set r')⟩
/-- int(b), b a truth -/
theorem v_int1b {c : Bool} (h : EvX W K ta Γ (.bl c)) : EvX W K (tCB rInt1 (tCons ta tNil)) Γ (.int (if c then 1 else 0)) := v_cbx (a_consx h a_nil) fun G H xs k r Q q => by
  cases r with
  | cons r1 r =>
    cases r
    cases r1
    exact .inr ⟨c, rfl, q.here k (.int _) rfl⟩
/-- for x in reversed(a list) -/
theorem q_forRL {ds : List Dat} {j : Nat} {tb : TS} (h : EvX W K tl Γ (.lst ds)) (S : S4 W K G1 G0 H0 Γ O σ G H) (I : Nat → List (Option Dat) → List (Addr × List Dat) → Prop) (h0 : I 0 Γ O)
    (hs : ∀ G1 (i : Nat) d Γ' O' σ' G' H', i < ds.length → ds[ds.length - 1 - i]? = some d → I i Γ' O' → S4 W K G1 G0 H0 (Γ'.set j (some d)) O' σ' G' H' → tb { D with nx := Word W K G1 G0 H0 (I (i + 1)), ct := Word W K G1 G0 H0 (I (i + 1)), bk := tz D } σ' H')
    (hd : ∀ Γ' O' σ' G' H', I ds.length Γ' O' → S4 W K G1 G0 H0 Γ' O' σ' G' H' → tz D σ' H') : tSeq (tFor (RT.iRevA K tl) (gName j) tb) tz D σ H :=
  h σ G H S.env S.ok _ fun v d G2 H2 s e r => by
    subst e
    obtain ⟨a, xs, rfl, hx, r⟩ := r.lst_inv
    have S2 := S.step s
    have hl := r.length
    refine ⟨a, xs, rfl, .inl ⟨ex_l S2.ok.ex hx, RT.for_Itv (fun i σ' H' => Word W K G2 G0 H0 (I i) σ' H') ⟨Γ, O, G2, h0, S2.here⟩ (fun i σ' H' ⟨Γ', O', G', _, S'⟩ => ex_l (S'.fr.trans S'.ok.ex) hx) (fun i x σ' H' hi hxi ⟨Γ', O', G', hI, S'⟩ => ?_) (fun σ' H' ⟨Γ', O', G', hI, S'⟩ => hd Γ' O' σ' G' H' (by rw [← hl]; exact hI) (S'.base S2.fr))⟩⟩
    obtain ⟨d, hd', rd⟩ := r.getV hxi
    rw [hl] at hd' hi
    exact hs G2 i d Γ' O' _ G' H' hi hd' hI (S'.set (rd.mono S'.fr))
/-- xs.insert(i, e), xs the own list; slots that are read here are forgotten behind it -/
theorem q_insW {l : Addr} {ds : List Dat} {i : Nat} {R : Nat → Prop} {Γ' : List (Option Dat)} (w : Wk Γ Γ') (hi0 : Γ[i]? = some (some (.adr l))) (hi1 : Γ'[i]? = some (some (.adr l))) (hn : NLs ds) (hG : NLG i 0 Γ') (hO : ∀ k es, (k, es) ∈ O → NLs es) (hi : Ev W K tb (Γ.set i (some (.lst ds))) fun e => ∃ j : Nat, e = .int (j : Int) ∧ j ≤ ds.length ∧ R j) (h : Ev W K te (Γ.set i (some (.lst ds))) P) (hp : ∀ d, P d → NL d) (hl : ds.length < 90000) (S : S4 W K G1 G0 H0 Γ ((l, ds) :: O) σ G H)
    (k : ∀ (j : Nat) d G2 H2, j ≤ ds.length → R j → P d → S4 W K G1 G0 H0 Γ' ((l, ds.take j ++ [d] ++ ds.drop j) :: O) σ G2 H2 → tz D σ H2) : tSeq (tDrop (tBM K "list" rInsert (tVar i) (tCons tb (tCons te tNil)))) tz D σ H := by
  obtain ⟨t, e1, Gk, Sk, xs, x1, x2⟩ := S.keepT hi0
  refine ⟨.ref l, e1, .inl ⟨rfl, xs, l_of (Sk.ok.ex _ _ x1)⟩, ?_⟩
  refine hi σ Gk H Sk.env Sk.ok _ fun y e G2 H2 s ⟨j, ej, j0, j1⟩ r => ?_
  subst ej
  cases r
  have S2 := Sk.step s
  refine h σ G2 H2 S2.env S2.ok _ fun v d G4 H4 s4 p r4 => ?_
  have S4' := (S2.step s4).weak (w.set i (some (.lst ds)))
  have g4 : G4 l = some (.lst xs) := s4.gg _ _ (s.gg _ _ x1)
  have lenΓ : i < Γ'.length := by
    rcases Nat.lt_or_ge i Γ'.length with z | z
    · exact z
    · rw [List.getElem?_eq_none z] at hi1
      cases hi1
  have S5 := S4.thaw t e1 ⟨xs, g4, (x2.mono s.gg).mono s4.gg⟩ S4' hn (fun j d hj hd => by
    rw [List.getElem?_set_ne (Ne.symm hj)] at hd
    exact hG.of j d hj hd) hO
  have eΓ : ((Γ'.set i (some (.lst ds))).set i (some (.adr l))) = Γ' := by
    rw [List.set_set]
    apply List.ext_getElem?
    intro n
    by_cases hz : i = n
    · subst hz
      rw [List.getElem?_set_self lenΓ, hi1]
    · rw [List.getElem?_set_ne hz]
  rw [eΓ] at S5
  obtain ⟨ys, h1, h2⟩ := (S5.own l ds List.mem_cons_self).at'
  have hlen := h2.length
  refine ⟨l, ys, (j : Int), v, rfl, rfl, h1, by rw [hlen]; exact sz_lt (by omega), by omega, by omega, ?_⟩
  rw [Int.toNat_natCast]
  exact k j d _ _ j0 j1 p (S5.put (((h2.take j).append (.cons (Rep.thaw g4 (hp d p) r4) .nil)).append (h2.drop j)))
end
end Ly

set_option maxHeartbeats 4000000
namespace Ly
open PySem L2 PySem.Spec PyProof.Rows
section
variable {W : Wd} {K : PySem.W.Frag} {Γ : List (Option Dat)} {ta tb tc te tl tv tn : TE} {tt tu : TT} {tA : TA} {P R S : Dat → Prop} {d a b : Dat} {G1 G0 H0 G H G2 H2 : Hp} {O : List (Addr × List Dat)} {σ : L2.St} {D : Ends} {tz ts tw : TS}
/-- x = xs.pop(), xs the own list -/
theorem g_pop {l : Addr} {ds : List Dat} {j : Nat} (ho : EvX W K ta Γ (.adr l)) (S : S4 W K G1 G0 H0 Γ ((l, ds ++ [d]) :: O) σ G H) (k : ∀ σ2 G2 H2, S4 W K G1 G0 H0 (Γ.set j (some d)) ((l, ds) :: O) σ2 G2 H2 → D.nx σ2 H2) :
    tAsg (tBM0 K "list" rPop ta) (gName j) D σ H := ho σ G H S.env S.ok _ fun v e G2 H2 s ee r => by
  subst ee
  cases r
  have S2 := S.step s
  obtain ⟨xs, h1, h2⟩ := (S2.own l (ds ++ [d]) List.mem_cons_self).at'
  have hl := h2.length
  rw [List.length_append, List.length_singleton] at hl
  obtain ⟨y, hy, ry⟩ := h2.get (i := ds.length) (d := d) (by rw [List.getElem?_append_right (Nat.le_refl _), Nat.sub_self]; rfl)
  refine ⟨.inl ⟨rfl, xs, l_of h1⟩, l, xs, y, rfl, rfl, h1, by rw [show xs.length - 1 = ds.length by omega]; exact hy, ?_⟩
  have rr : Reps K G2 xs.dropLast ds := by
    have := h2.take ds.length
    rw [List.take_left'] at this
    · rw [List.dropLast_eq_take, show xs.length - 1 = ds.length by omega]
      exact this
    · rfl
  exact k _ G2 _ ((S2.put rr).set ry)
theorem q_pop {l : Addr} {ds : List Dat} {j : Nat} (ho : EvX W K ta Γ (.adr l)) (S : S4 W K G1 G0 H0 Γ ((l, ds ++ [d]) :: O) σ G H) (k : ∀ σ2 G2 H2, S4 W K G1 G0 H0 (Γ.set j (some d)) ((l, ds) :: O) σ2 G2 H2 → tz D σ2 H2) :
    tSeq (tAsg (tBM0 K "list" rPop ta) (gName j)) tz D σ H := g_pop (D := { D with nx := tz D }) ho S k
/-- xs.reverse(), xs the own list -/
theorem q_rev {l : Addr} {ds : List Dat} (ho : EvX W K ta Γ (.adr l)) (S : S4 W K G1 G0 H0 Γ ((l, ds) :: O) σ G H) (k : ∀ G2 H2, S4 W K G1 G0 H0 Γ ((l, ds.reverse) :: O) σ G2 H2 → tz D σ H2) :
    tSeq (tDrop (tBM0 K "list" rReverse ta)) tz D σ H := ho σ G H S.env S.ok _ fun v e G2 H2 s ee r => by
  subst ee
  cases r
  have S2 := S.step s
  obtain ⟨xs, h1, h2⟩ := (S2.own l ds List.mem_cons_self).at'
  exact ⟨.inl ⟨rfl, xs, l_of h1⟩, l, xs, rfl, rfl, h1, k G2 _ (S2.put h2.reverse)⟩
end
end Ly

set_option maxHeartbeats 4000000
namespace Ly
open PySem L2 PySem.Spec PyProof.Rows
section
variable {W : Wd} {K : PySem.W.Frag} {Γ : List (Option Dat)} {ta tb tc te tl tv tn : TE} {tt tu : TT} {tA : TA} {P R : Dat → Prop} {d a b : Dat} {G1 G0 H0 G H G2 H2 : Hp} {O : List (Addr × List Dat)} {σ : L2.St} {D : Ends} {tz ts tw : TS}
/-! ## reading of own lists -/
theorem S4.lookG {l : Addr} {ds : List Dat} {i : Nat} (hi : Γ[i]? = some (some (.adr l))) (hm : (l, ds) ∈ O) (S : S4 W K G1 G0 H0 Γ O σ G H) :
    ∃ G', Env K G' σ (Γ.set i (some (.lst ds))) ∧ Ok W G' H ∧ ∀ G2 H2, Stp W G' H G2 H2 → S4 W K G1 G0 H0 Γ O σ (del G2 l) H2 ∧ Stp W G H (del G2 l) H2 ∧ ∃ xs, G2 l = some (.lst xs) := by
  have o := S.own l ds hm
  obtain ⟨xs, h1, h2⟩ := o.at'
  have gg : Ex G (upd G l (.lst xs)) := Ex.new o.g
  have eg : Ex (upd G l (.lst xs)) H := fun a u e => by
    by_cases ea : a = l
    · subst ea
      rw [upd_same] at e
      rw [h1]
      exact e
    · rw [upd_ne ea] at e
      exact S.ok.ex a u e
  have ok' : Ok W (upd G l (.lst xs)) H := ⟨eg, S.ok.inv, fun a ha => by
    have ne : a ≠ l := fun e => o.m (e ▸ ha)
    rw [upd_ne ne]
    exact S.ok.off a ha⟩
  have env' : Env K (upd G l (.lst xs)) σ (Γ.set i (some (.lst ds))) := by
    obtain ⟨v, e1, e2⟩ := S.env.at' i _ hi
    have e3 := e2.adr_inv
    subst e3
    have q : Env K (upd G l (.lst xs)) (σ.set i (some (.ref l))) (Γ.set i (some (.lst ds))) := (S.env.mono gg).set (.lst (l_of upd_same) (h2.mono gg))
    have e4 : σ.set i (some (.ref l)) = σ := by
      apply List.ext_getElem?
      intro j
      by_cases hj : i = j
      · subst hj
        have hlt : i < σ.length := by
          rcases Nat.lt_or_ge i σ.length with q | q
          · exact q
          · rw [List.getElem?_eq_none q] at e1
            cases e1
        rw [List.getElem?_set_self hlt, e1]
      · rw [List.getElem?_set_ne hj]
    rw [e4] at q
    exact q
  refine ⟨_, env', ok', fun G2 H2 s => ?_⟩
  have g2 : G2 l = some (.lst xs) := s.gg _ _ upd_same
  have st : Stp W G H (del G2 l) H2 := ⟨fun a u e => by
      rw [del_ne (ne_of_none e o.g)]
      exact s.gg a u (gg a u e), fun a u e => by
      by_cases ea : a = l
      · subst ea
        rw [del_same] at e
        cases e
      · rw [del_ne ea] at e
        exact s.gh a u e, s.hh, fun a u e => by
      by_cases ea : a = l
      · subst ea
        rw [del_same] at e
        cases e
      · rw [del_ne ea] at e
        rcases s.nw a u e with q | q
        · rw [upd_ne ea] at q
          exact .inl q
        · exact .inr q, s.inv⟩
  exact ⟨S.step st, st, xs, g2⟩
/-- the own list at l is looked at while an expression is found -/
theorem S4.look {l : Addr} {ds : List Dat} {i : Nat} (hi : Γ[i]? = some (some (.adr l))) (hm : (l, ds) ∈ O) (h : Ev W K te (Γ.set i (some (.lst ds))) P) (hp : ∀ d, P d → NL d) (S : S4 W K G1 G0 H0 Γ O σ G H) {Q : VK}
    (k : ∀ v d G2 H2, S4 W K G1 G0 H0 Γ O σ G2 H2 → P d → Rep K G2 v d → Q v H2) : te σ H Q := by
  obtain ⟨G', e, o, f⟩ := S.lookG hi hm
  refine h σ G' H e o Q fun v d G2 H2 s p r => ?_
  obtain ⟨S2, _, xs, g2⟩ := f G2 H2 s
  exact k v d _ H2 S2 p (Rep.thaw g2 (hp d p) r)
theorem S4.lookB {P : Bool → Prop} {l : Addr} {ds : List Dat} {i : Nat} (hi : Γ[i]? = some (some (.adr l))) (hm : (l, ds) ∈ O) (h : EvB W K tt (Γ.set i (some (.lst ds))) P) (S : S4 W K G1 G0 H0 Γ O σ G H) {Q : Bool → Hp → Prop}
    (k : ∀ b G2 H2, S4 W K G1 G0 H0 Γ O σ G2 H2 → P b → Q b H2) : tt σ H Q := by
  obtain ⟨G', e, o, f⟩ := S.lookG hi hm
  exact h σ G' H e o Q fun b G2 H2 s p => k b _ H2 (f G2 H2 s).1 p
theorem S4.lookN {P : List Dat → Prop} {l : Addr} {ds : List Dat} {i : Nat} (hi : Γ[i]? = some (some (.adr l))) (hm : (l, ds) ∈ O) (h : EvN W K te (Γ.set i (some (.lst ds))) P) (hp : ∀ es, P es → NLs es) (S : S4 W K G1 G0 H0 Γ O σ G H) {Q : VK}
    (k : ∀ p xs es G2 H2, S4 W K G1 G0 H0 Γ O σ G2 H2 → Stp W G H G2 H2 → H p = none → G2 p = none → H2 p = some (.lst xs) → Reps K G2 xs es → P es → Q (.ref p) H2) : te σ H Q := by
  obtain ⟨G', e, o, f⟩ := S.lookG hi hm
  refine h σ G' H e o Q fun p xs es G2 H2 s h0 g2 h2 r pe => ?_
  obtain ⟨S2, st, ys, g3⟩ := f G2 H2 s
  refine k p xs es _ H2 S2 st h0 ?_ h2 (Reps.thaw g3 (hp es pe) r) pe
  by_cases q : p = l
  · rw [q, del_same]
  · rw [del_ne q, g2]
/-! statements that look at an own list -/
theorem g_setL {l : Addr} {ds : List Dat} {i j : Nat} (hi : Γ[i]? = some (some (.adr l))) (hm : (l, ds) ∈ O) (h : Ev W K te (Γ.set i (some (.lst ds))) P) (hp : ∀ d, P d → NL d) (S : S4 W K G1 G0 H0 Γ O σ G H)
    (k : ∀ d σ2 G2 H2, P d → S4 W K G1 G0 H0 (Γ.set j (some d)) O σ2 G2 H2 → D.nx σ2 H2) : tAsg te (gName j) D σ H :=
  S.look hi hm h hp fun v d G2 H2 S2 p r => k d _ G2 H2 p (S2.set r)
theorem q_setL {l : Addr} {ds : List Dat} {i j : Nat} (hi : Γ[i]? = some (some (.adr l))) (hm : (l, ds) ∈ O) (h : Ev W K te (Γ.set i (some (.lst ds))) P) (hp : ∀ d, P d → NL d) (S : S4 W K G1 G0 H0 Γ O σ G H)
    (k : ∀ d σ2 G2 H2, P d → S4 W K G1 G0 H0 (Γ.set j (some d)) O σ2 G2 H2 → tz D σ2 H2) : tSeq (tAsg te (gName j)) tz D σ H := g_setL (D := { D with nx := tz D }) hi hm h hp S k
theorem g_setLx {l : Addr} {ds : List Dat} {i j : Nat} (hi : Γ[i]? = some (some (.adr l))) (hm : (l, ds) ∈ O) (h : EvX W K te (Γ.set i (some (.lst ds))) d) (hp : NL d) (S : S4 W K G1 G0 H0 Γ O σ G H)
    (k : ∀ σ2 G2 H2, S4 W K G1 G0 H0 (Γ.set j (some d)) O σ2 G2 H2 → D.nx σ2 H2) : tAsg te (gName j) D σ H :=
  S.look hi hm h (fun e q => q ▸ hp) fun v d' G2 H2 S2 p r => by
    subst p
    exact k _ G2 H2 (S2.set r)
theorem q_setLx {l : Addr} {ds : List Dat} {i j : Nat} (hi : Γ[i]? = some (some (.adr l))) (hm : (l, ds) ∈ O) (h : EvX W K te (Γ.set i (some (.lst ds))) d) (hp : NL d) (S : S4 W K G1 G0 H0 Γ O σ G H)
    (k : ∀ σ2 G2 H2, S4 W K G1 G0 H0 (Γ.set j (some d)) O σ2 G2 H2 → tz D σ2 H2) : tSeq (tAsg te (gName j)) tz D σ H := g_setLx (D := { D with nx := tz D }) hi hm h hp S k
theorem g_ifL {P : Bool → Prop} {t1 t2 : TS} {l : Addr} {ds : List Dat} {i : Nat} (hi : Γ[i]? = some (some (.adr l))) (hm : (l, ds) ∈ O) (h : EvB W K tt (Γ.set i (some (.lst ds))) P) (S : S4 W K G1 G0 H0 Γ O σ G H) (k1 : P true → ∀ G2 H2, S4 W K G1 G0 H0 Γ O σ G2 H2 → t1 D σ H2) (k2 : P false → ∀ G2 H2, S4 W K G1 G0 H0 Γ O σ G2 H2 → t2 D σ H2) : tIfS tt t1 t2 D σ H :=
  S.lookB hi hm h fun b G2 H2 S2 p => by
    cases b with
    | true =>
      show t1 D σ H2
      exact k1 p G2 H2 S2
    | false =>
      show t2 D σ H2
      exact k2 p G2 H2 S2
theorem q_ifL {P : Bool → Prop} {t1 t2 : TS} {l : Addr} {ds : List Dat} {i : Nat} (hi : Γ[i]? = some (some (.adr l))) (hm : (l, ds) ∈ O) (h : EvB W K tt (Γ.set i (some (.lst ds))) P) (S : S4 W K G1 G0 H0 Γ O σ G H) (k1 : P true → ∀ G2 H2, S4 W K G1 G0 H0 Γ O σ G2 H2 → t1 { D with nx := tz D } σ H2) (k2 : P false → ∀ G2 H2, S4 W K G1 G0 H0 Γ O σ G2 H2 → t2 { D with nx := tz D } σ H2) : tSeq (tIfS tt t1 t2) tz D σ H := g_ifL (D := { D with nx := tz D }) hi hm h S k1 k2
theorem q_whenL {P : Bool → Prop} {t1 : TS} {l : Addr} {ds : List Dat} {i : Nat} (hi : Γ[i]? = some (some (.adr l))) (hm : (l, ds) ∈ O) (h : EvB W K tt (Γ.set i (some (.lst ds))) P) (S : S4 W K G1 G0 H0 Γ O σ G H) (k1 : P true → ∀ G2 H2, S4 W K G1 G0 H0 Γ O σ G2 H2 → t1 { D with nx := tz D } σ H2) (k2 : P false → ∀ G2 H2, S4 W K G1 G0 H0 Γ O σ G2 H2 → tz D σ H2) : tSeq (tIfS tt t1 tNext) tz D σ H := g_ifL (D := { D with nx := tz D }) hi hm h S k1 k2
/-! ## pop as a value; targets of a value -/
theorem x_pop {l : Addr} {ds : List Dat} (ho : EvX W K ta Γ (.adr l)) (S : S4 W K G1 G0 H0 Γ ((l, ds ++ [d]) :: O) σ G H) {Q : VK} (k : ∀ v G2 H2, S4 W K G1 G0 H0 Γ ((l, ds) :: O) σ G2 H2 → Rep K G2 v d → Q v H2) :
    tBM0 K "list" rPop ta σ H Q := ho σ G H S.env S.ok _ fun v e G2 H2 s ee r => by
  subst ee
  cases r
  have S2 := S.step s
  obtain ⟨xs, h1, h2⟩ := (S2.own l (ds ++ [d]) List.mem_cons_self).at'
  have hl := h2.length
  rw [List.length_append, List.length_singleton] at hl
  obtain ⟨y, hy, ry⟩ := h2.get (i := ds.length) (d := d) (by rw [List.getElem?_append_right (Nat.le_refl _), Nat.sub_self]; rfl)
  refine ⟨.inl ⟨rfl, xs, l_of h1⟩, l, xs, y, rfl, rfl, h1, by rw [show xs.length - 1 = ds.length by omega]; exact hy, ?_⟩
  have rr : Reps K G2 xs.dropLast ds := by
    have := h2.take ds.length
    rw [List.take_left'] at this
    · rw [List.dropLast_eq_take, show xs.length - 1 = ds.length by omega]
      exact this
    · rfl
  exact k y G2 _ (S2.put rr) ry
theorem t_names {v : V} {js : List Nat} {n : Nat} {ds : List Dat} {Q : L2.St → Hp → Prop} (r : Rep K G v (.tup ds)) (hn : ds.length = n) (hj : js.length = n) (S : S4 W K G1 G0 H0 Γ O σ G H) (k : ∀ σ2, S4 W K G1 G0 H0 (setsG Γ js ds) O σ2 G H → Q σ2 H) : gTup K n (gNames js) v σ H Q := by
  obtain ⟨a, xs, rfl, hs, r⟩ := r.tup_inv
  exact ⟨a, xs, rfl, ex_t S.ok.ex hs, by rw [r.length]; exact hn, gNames_run (js := js) r (hj.trans hn.symm) S k⟩
/-- x, y = xs.pop() -/
theorem q_popT {l : Addr} {ds es : List Dat} {js : List Nat} {n : Nat} (ho : EvX W K ta Γ (.adr l)) (hn : es.length = n) (hj : js.length = n) (S : S4 W K G1 G0 H0 Γ ((l, ds ++ [.tup es]) :: O) σ G H) (k : ∀ σ2 G2 H2, S4 W K G1 G0 H0 (setsG Γ js es) ((l, ds) :: O) σ2 G2 H2 → tz D σ2 H2) :
    tSeq (tAsg (tBM0 K "list" rPop ta) (gTup K n (gNames js))) tz D σ H := x_pop ho S fun v G2 H2 S2 r => t_names r hn hj S2 fun σ2 S3 => k σ2 G2 H2 S3
/-! ## append of what a value with effects gives -/
theorem g_appX {l : Addr} {ds : List Dat} (ho : EvX W K ta Γ (.adr l)) (S : S4 W K G1 G0 H0 Γ ((l, ds) :: O) σ G H)
    (h : ∀ G2 H2, S4 W K G1 G0 H0 Γ ((l, ds) :: O) σ G2 H2 → ∀ Q : VK, (∀ v d es G3 H3, S4 W K G1 G0 H0 Γ ((l, es) :: O) σ G3 H3 → es.length < 100000 → Rep K G3 v d → (∀ G4 H4, S4 W K G1 G0 H0 Γ ((l, es ++ [d]) :: O) σ G4 H4 → D.nx σ H4) → Q v H3) → te σ H2 Q) :
    tDrop (tBM K "list" rAppend ta (tCons te tNil)) D σ H := ho σ G H S.env S.ok _ fun v d G2 H2 s e r => by
  subst e
  cases r
  have S2 := S.step s
  obtain ⟨xs, h1, _⟩ := (S2.own l ds List.mem_cons_self).at'
  refine ⟨.inl ⟨rfl, xs, l_of h1⟩, ?_⟩
  refine h G2 H2 S2 _ fun y dy es G3 H3 S3 hz ry k => ?_
  obtain ⟨ys, h3, h4⟩ := (S3.own l es List.mem_cons_self).at'
  refine ⟨l, ys, y, rfl, rfl, h3, by rw [h4.length]; exact sz_lt hz, ?_⟩
  exact k G3 _ (S3.put (h4.append (.cons ry .nil)))
/-! ## a while whose test looks at the state -/
theorem g_whileS (m0 : Nat) (I : Nat → List (Option Dat) → List (Addr × List Dat) → Prop) (S : S4 W K G1 G0 H0 Γ O σ G H) (h0 : I m0 Γ O)
    (hs : ∀ m Γ' O' σ' G' H', I m Γ' O' → S4 W K G1 G0 H0 Γ' O' σ' G' H' → ∃ b, (∀ Q : Bool → Hp → Prop, (∀ G2 H2, S4 W K G1 G0 H0 Γ' O' σ' G2 H2 → Q b H2) → tt σ' H' Q) ∧ (b = true → ∀ G' H', S4 W K G1 G0 H0 Γ' O' σ' G' H' → ts { D with nx := fun σ2 H2 => ∃ m', m' < m ∧ Word W K G1 G0 H0 (I m') σ2 H2, ct := fun σ2 H2 => ∃ m', m' < m ∧ Word W K G1 G0 H0 (I m') σ2 H2, bk := D.nx } σ' H') ∧
      (b = false → ∀ G' H', S4 W K G1 G0 H0 Γ' O' σ' G' H' → D.nx σ' H')) : tWhile tt ts D σ H :=
  ⟨fun m σ H => Word W K G1 G0 H0 (I m) σ H, ⟨m0, Γ, O, G, h0, S⟩, fun m σ' H' ⟨Γ', O', G', hI, S'⟩ => by
    obtain ⟨b, hb, h1, h2⟩ := hs m Γ' O' σ' G' H' hI S'
    refine hb _ fun G2 H2 S2 => ?_
    cases b with
    | true => exact ⟨_, fun _ _ z => z, h1 rfl G2 H2 S2⟩
    | false => exact h2 rfl G2 H2 S2⟩
theorem q_whileS (m0 : Nat) (I : Nat → List (Option Dat) → List (Addr × List Dat) → Prop) (S : S4 W K G1 G0 H0 Γ O σ G H) (h0 : I m0 Γ O)
    (hs : ∀ m Γ' O' σ' G' H', I m Γ' O' → S4 W K G1 G0 H0 Γ' O' σ' G' H' → ∃ b, (∀ Q : Bool → Hp → Prop, (∀ G2 H2, S4 W K G1 G0 H0 Γ' O' σ' G2 H2 → Q b H2) → tt σ' H' Q) ∧ (b = true → ∀ G' H', S4 W K G1 G0 H0 Γ' O' σ' G' H' → ts { D with nx := fun σ2 H2 => ∃ m', m' < m ∧ Word W K G1 G0 H0 (I m') σ2 H2, ct := fun σ2 H2 => ∃ m', m' < m ∧ Word W K G1 G0 H0 (I m') σ2 H2, bk := tz D } σ' H') ∧
      (b = false → ∀ G' H', S4 W K G1 G0 H0 Γ' O' σ' G' H' → tz D σ' H')) : tSeq (tWhile tt ts) tz D σ H := g_whileS (D := { D with nx := tz D }) m0 I S h0 hs
/-- the truth of an own list -/
theorem x_truO {l : Addr} {ds : List Dat} {i : Nat} (hi : Γ[i]? = some (some (.adr l))) (hm : (l, ds) ∈ O) (S : S4 W K G1 G0 H0 Γ O σ G H) {Q : Bool → Hp → Prop} (k : Q (!ds.isEmpty) H) : (fun (σ : L2.St) (H : Hp) (Q : Bool → Hp → Prop) => tVar i σ H fun x H' => ∃ k, TruV K x H' k ∧ Q k H') σ H Q := by
  obtain ⟨v, e1, e2⟩ := S.env.at' i _ hi
  have e3 := e2.adr_inv
  subst e3
  obtain ⟨xs, h1, h2⟩ := (S.own l ds hm).at'
  have e : xs.isEmpty = ds.isEmpty := by
    have := h2.length
    cases xs <;> cases ds <;> simp_all
  exact ⟨.ref l, e1, _, .inl ⟨xs, l_of h1, rfl⟩, by rw [e]; exact k⟩
end
section
variable {X : Cx}
theorem seq_ext_t {l b : Addr} {n n2 : Nat} {its its2 : Array Value} {dd : Option Addr} {sl : Array (Option Value)} (h0 : ¬(!its.isEmpty && Builtin.List.listTooLong (its.size + its2.size)) = true) (h1 : its.size ≤ sizeLine) (h2 : its.size + its2.size ≤ sizeLine + 1) :
    Meets (Builtin.«list.extend» ⟨[.ref l, .ref b], []⟩) (fun _ R s => s.heap.get? l = some { cls := .type "list", dict := none, data := .seq its n, slots := #[] } ∧ s.heap.get? b = some { cls := .type "tuple", dict := dd, data := .seq its2 n2, slots := sl } ∧ R (.ok (.ret Value.none)) { s with heap := s.heap.update l (Obj.mapSeq fun x => x ++ its2), toks := s.toks }) :=
  Meets.of_wp fun prog w A R s h => by
    obtain ⟨hp, g, d, tk, os⟩ := s
    obtain ⟨hl, hb, h⟩ := h
    have f1 := AutoSeq1.idx_int
    have f2 := AutoSeq1.sub_tuple_tuple
    have f3 := AutoSeq1.sub_list_list
    have f4 := AutoSeq1.sub_tuple_list
    have f5 := AutoSeq1.sub_list_tuple
    have hz : (its ++ its2).size ≤ sizeLine + 1 := by
      rw [Array.size_append]
      exact h2
    wp_walk using (wpAny_updateSeq hl rfl (hz := h1) (_hz' := hz)), AutoSeq1.wpAny_loadPart' hl, AutoSeq1.wpAny_loadPart' hb
    exact ⟨_, rfl, h⟩
/-- xs.extend(t), t a tuple -/
def rExtT (K : PySem.W.Frag) : V → List V → Hp → VK → Prop := fun x vs H Q => ∃ l b xs zs, x = .ref l ∧ vs = [.ref b] ∧ H l = some (.lst xs) ∧ SqT K H b zs ∧ xs.length + zs.length ≤ sizeLine ∧ Q .non (upd H l (.lst (xs ++ zs)))
theorem mt_extT : MtM X "list.extend" (rExtT X.K) := by
  intro pins s σ H x vs v us Q I rx rv h
  obtain ⟨l, b, xs, zs, rfl, rfl, hH, hB, hz, q⟩ := h
  cases rx
  obtain ⟨u, rfl, ru⟩ := rv.one
  cases ru
  obtain ⟨z, its, n, r, hl, e⟩ := I.lstM hH
  obtain ⟨its2, r2, ht, hl2⟩ := I.tuple hB
  have hl3 := r2.length
  have hsz : its.toArray.size + its2.toArray.size ≤ sizeLine := by rw [List.size_toArray, List.size_toArray]; omega
  have hno : ¬ (!its.toArray.isEmpty && Builtin.List.listTooLong (its.toArray.size + its2.toArray.size)) = true := by
    rw [notLongL hsz, Bool.and_false]
    exact Bool.false_ne_true
  obtain ⟨⟨cls, dd, data, sl⟩, ho, hc, n2, hd⟩ := ht
  simp only at hc hd
  subst hc hd
  refine call_meets F.slot_list_extend ⟨_, e, rfl⟩ F.entry_list_extend (F.args_list_extend_2 _ _)
    (seq_ext_t hno (by rw [List.size_toArray]; omega) (by omega)) ⟨e, ho, ?_⟩
  refine ⟨.non, _, I.lset (its' := its ++ its2) hH e (by simp) (r.append r2) (by rw [List.length_append]; omega), rfl, q⟩
end
section
variable {W : Wd} {K : PySem.W.Frag} {Γ : List (Option Dat)} {ta tb tc te tl tv tn : TE} {tt tu : TT} {tA : TA} {P R : Dat → Prop} {d a b : Dat} {G1 G0 H0 G H G2 H2 : Hp} {O : List (Addr × List Dat)} {σ : L2.St} {D : Ends} {tz ts tw : TS}
/-- xs.extend(t), xs the own list, t a tuple that is known -/
theorem g_extT {l : Addr} {ds es : List Dat} (ho : EvX W K ta Γ (.adr l)) (h : EvX W K te Γ (.tup es)) (S : S4 W K G1 G0 H0 Γ ((l, ds) :: O) σ G H) (hz : ds.length + es.length < 100000) (k : ∀ G2 H2, S4 W K G1 G0 H0 Γ ((l, ds ++ es) :: O) σ G2 H2 → D.nx σ H2) :
    tDrop (tBM K "list" (rExtT K) ta (tCons te tNil)) D σ H := ho σ G H S.env S.ok _ fun v d G2 H2 s e r => by
  subst e
  cases r
  have S2 := S.step s
  obtain ⟨xs, h1, _⟩ := (S2.own l ds List.mem_cons_self).at'
  refine ⟨.inl ⟨rfl, xs, l_of h1⟩, ?_⟩
  refine h σ G2 H2 S2.env S2.ok _ fun y dy G3 H3 s3 py ry => ?_
  subst py
  have S3 := S2.step s3
  obtain ⟨b, zs, rfl, hb, rz⟩ := ry.tup_inv
  obtain ⟨ys, h3, h4⟩ := (S3.own l ds List.mem_cons_self).at'
  refine ⟨l, b, ys, zs, rfl, rfl, h3, ex_t S3.ok.ex hb, by rw [h4.length, rz.length]; exact sz_of (by omega), ?_⟩
  exact k G3 _ (S3.put (h4.append rz))
theorem q_extT {l : Addr} {ds es : List Dat} (ho : EvX W K ta Γ (.adr l)) (h : EvX W K te Γ (.tup es)) (S : S4 W K G1 G0 H0 Γ ((l, ds) :: O) σ G H) (hz : ds.length + es.length < 100000) (k : ∀ G2 H2, S4 W K G1 G0 H0 Γ ((l, ds ++ es) :: O) σ G2 H2 → tz D σ H2) :
    tSeq (tDrop (tBM K "list" (rExtT K) ta (tCons te tNil))) tz D σ H := g_extT (D := { D with nx := tz D }) ho h S hz k
/-- xs.extend([..]), a new list -/
theorem g_extN {l : Addr} {ds es : List Dat} (ho : EvX W K ta Γ (.adr l)) (h : EvN W K te Γ (· = es)) (S : S4 W K G1 G0 H0 Γ ((l, ds) :: O) σ G H) (hz : ds.length + es.length < 100000) (k : ∀ G2 H2, S4 W K G1 G0 H0 Γ ((l, ds ++ es) :: O) σ G2 H2 → D.nx σ H2) :
    tDrop (tBM K "list" rExtend ta (tCons te tNil)) D σ H := ho σ G H S.env S.ok _ fun v d G2 H2 s e r => by
  subst e
  cases r
  have S2 := S.step s
  obtain ⟨xs, h1, _⟩ := (S2.own l ds List.mem_cons_self).at'
  refine ⟨.inl ⟨rfl, xs, l_of h1⟩, ?_⟩
  refine h σ G2 H2 S2.env S2.ok _ fun p zs es' G3 H3 s3 _ _ h2 rz pe => ?_
  subst pe
  have S3 := S2.step s3
  obtain ⟨ys, h3, h4⟩ := (S3.own l ds List.mem_cons_self).at'
  refine ⟨l, p, ys, zs, rfl, rfl, h3, h2, by rw [h4.length, rz.length]; exact sz_of (by omega), ?_⟩
  exact k G3 _ (S3.put (h4.append rz))
theorem q_extN {l : Addr} {ds es : List Dat} (ho : EvX W K ta Γ (.adr l)) (h : EvN W K te Γ (· = es)) (S : S4 W K G1 G0 H0 Γ ((l, ds) :: O) σ G H) (hz : ds.length + es.length < 100000) (k : ∀ G2 H2, S4 W K G1 G0 H0 Γ ((l, ds ++ es) :: O) σ G2 H2 → tz D σ H2) :
    tSeq (tDrop (tBM K "list" rExtend ta (tCons te tNil))) tz D σ H := g_extN (D := { D with nx := tz D }) ho h S hz k
/-- x.reverse() of the own list, at the end of a block -/
theorem g_rev {l : Addr} {ds : List Dat} (ho : EvX W K ta Γ (.adr l)) (S : S4 W K G1 G0 H0 Γ ((l, ds) :: O) σ G H) (k : ∀ G2 H2, S4 W K G1 G0 H0 Γ ((l, ds.reverse) :: O) σ G2 H2 → D.nx σ H2) :
    tDrop (tBM0 K "list" rReverse ta) D σ H := ho σ G H S.env S.ok _ fun v e G2 H2 s ee r => by
  subst ee
  cases r
  have S2 := S.step s
  obtain ⟨xs, h1, h2⟩ := (S2.own l ds List.mem_cons_self).at'
  exact ⟨.inl ⟨rfl, xs, l_of h1⟩, l, xs, rfl, rfl, h1, k G2 _ (S2.put h2.reverse)⟩
/-- x.clear() of the own list -/
theorem g_clear {l : Addr} {ds : List Dat} (ho : EvX W K ta Γ (.adr l)) (S : S4 W K G1 G0 H0 Γ ((l, ds) :: O) σ G H) (k : ∀ G2 H2, S4 W K G1 G0 H0 Γ ((l, []) :: O) σ G2 H2 → D.nx σ H2) :
    tDrop (tBM0 K "list" rClear ta) D σ H := ho σ G H S.env S.ok _ fun v e G2 H2 s ee r => by
  subst ee
  cases r
  have S2 := S.step s
  obtain ⟨xs, h1, h2⟩ := (S2.own l ds List.mem_cons_self).at'
  exact ⟨.inl ⟨rfl, xs, l_of h1⟩, l, xs, rfl, rfl, h1, k G2 _ (S2.put .nil)⟩
end
/-! ## texts -/
section
variable {W : Wd} {K : PySem.W.Frag} {Γ : List (Option Dat)} {ta tb tc te tl tv tn : TE} {tt tu : TT} {tA : TA} {P R : Dat → Prop} {d a b : Dat} {G1 G0 H0 G H G2 H2 : Hp} {O : List (Addr × List Dat)} {σ : L2.St} {D : Ends} {tz ts tw : TS}
/-- a text by its signs -/
abbrev sg (c : Nat) : Str := ⟨#[c]⟩
abbrev tx (cs : List Nat) : Str := ⟨cs.toArray⟩
/-- for c in a text -/
theorem g_forS {cs : List Nat} {j : Nat} {tb : TS} (h : EvX W K tl Γ (.str (tx cs))) (S : S4 W K G1 G0 H0 Γ O σ G H) (I : Nat → List (Option Dat) → List (Addr × List Dat) → Prop) (h0 : I 0 Γ O)
    (hs : ∀ (i c : Nat) Γ' O' σ' G' H', cs[i]? = some c → I i Γ' O' → S4 W K G1 G0 H0 (Γ'.set j (some (.str (sg c)))) O' σ' G' H' → tb { D with nx := Word W K G1 G0 H0 (I (i + 1)), ct := Word W K G1 G0 H0 (I (i + 1)), bk := D.nx } σ' H')
    (hd : ∀ Γ' O' σ' G' H', I cs.length Γ' O' → S4 W K G1 G0 H0 Γ' O' σ' G' H' → D.nx σ' H') : tFor (iStr tl) (gName j) tb D σ H :=
  h σ G H S.env S.ok _ fun v d G2 H2 s e r => by
    subst e
    cases r
    refine ⟨tx cs, rfl, fun i m σ' H' => m = cs.length - i ∧ i ≤ cs.length ∧ Word W K G1 G0 H0 (I i) σ' H', ⟨cs.length, by omega, by omega, Γ, O, G2, h0, S.step s⟩, fun i m σ' H' ⟨hm, hi, Γ', O', G', hI, S'⟩ => ?_⟩
    by_cases hlt : i < cs.length
    · refine .inr ⟨by show i < (tx cs).cps.size; simpa using hlt, Word W K G1 G0 H0 (I (i + 1)), fun σ2 H2 hw => ⟨cs.length - (i + 1), by omega, rfl, hlt, hw⟩, fun x H3 ⟨eH, c, hc, ex⟩ => ?_⟩
      subst eH ex
      have hc' : cs[i]? = some c := by simpa using hc
      exact hs i c Γ' O' _ G' H3 hc' hI (S'.set (.str _))
    · have e : i = cs.length := by omega
      subst e
      exact .inl ⟨by show (tx cs).cps.size ≤ cs.length; simp, hd Γ' O' σ' G' H' hI S'⟩
theorem q_forS {cs : List Nat} {j : Nat} {tb : TS} (h : EvX W K tl Γ (.str (tx cs))) (S : S4 W K G1 G0 H0 Γ O σ G H) (I : Nat → List (Option Dat) → List (Addr × List Dat) → Prop) (h0 : I 0 Γ O)
    (hs : ∀ (i c : Nat) Γ' O' σ' G' H', cs[i]? = some c → I i Γ' O' → S4 W K G1 G0 H0 (Γ'.set j (some (.str (sg c)))) O' σ' G' H' → tb { D with nx := Word W K G1 G0 H0 (I (i + 1)), ct := Word W K G1 G0 H0 (I (i + 1)), bk := tz D } σ' H')
    (hd : ∀ Γ' O' σ' G' H', I cs.length Γ' O' → S4 W K G1 G0 H0 Γ' O' σ' G' H' → tz D σ' H') : tSeq (tFor (iStr tl) (gName j) tb) tz D σ H :=
  g_forS (D := { D with nx := tz D }) h S I h0 hs hd
end
end Ly

set_option maxHeartbeats 4000000
namespace Ly
open PySem L2 PySem.Spec PyProof.Rows
/-! ## a dict of the module: str keys, ints as values -/
/-- the written dict at d: its keys in order, with their ints -/
structure KDi (K : PySem.W.Frag) (w : World) (d : Addr) (ks : List (Str × Int)) : Prop where
  ex : ∃ es n, KDict K w d es n ∧ es.size = ks.length ∧ (∀ (i : Nat) (h : i < es.size) k, ks[i]? = some k → ∃ t, es[i].key = .str k.1 t)
  get : ∀ x : Str, ∃ r, PySem.W.nsIn K d x = some r ∧ match ks.lookup x with
    | some v => ∃ t, r = some (.int v t)
    | none => r = none
def Itkd (ks : List (Str × Int)) : It := ⟨fun i _ => i < ks.length, fun i H x H' => H' = H ∧ ∃ k, ks[i]? = some k ∧ x = .str k.1, fun i _ => ks.length ≤ i⟩
section
variable {P : Program} {w : World} {K : PySem.W.Frag} {tg : Expr} {d : Addr} {es : Array DictEntry} {ep : Nat} {ks : List (Str × Int)}
theorem turn_kd (it : Addr) (hl : K.lookup d = some ⟨.type "dict", none, .dict es ep, #[]⟩) (hs : es.size = ks.length) (hk : ∀ (i : Nat) (h : i < es.size) k, ks[i]? = some k → ∃ t, es[i].key = .str k.1 t) :
    Turn P w K tg (Itkd ks) [it] it (fun i h => h.IsKeyIter it d i es.size ep) where
  mem := by simp
  obj := fun i h st b hb => by
    obtain rfl : b = it := by simpa using hb
    obtain ⟨oi, q1, _, q2⟩ := st
    exact ⟨oi, q1, fun v z => by rw [q2] at z; cases z⟩
  keep := fun i h h' st k => by
    obtain ⟨oi, q1, q2⟩ := st
    exact ⟨oi, k it (by simp) oi q1, q2⟩
  item := by
    intro X hP hw hK hc i pins s σ H E I hf st hg
    subst hP hw hK
    have hi : i < ks.length := hg
    obtain ⟨f0, f1, f2, f3, f4, f5⟩ := hf it (by simp)
    have hr : s.heap.DictRaw d es ep := ⟨_, I.kIn _ _ hl, ⟨rfl, rfl, rfl⟩, rfl⟩
    have hi2 : i < es.size := by omega
    obtain ⟨t, ht⟩ := hk i hi2 ks[i] (List.getElem?_eq_getElem hi)
    refine PySem.wpAny_pyNext_keys_item_raw st hr hi2 fun h' st' sb => ?_
    have I1 : Inv X pins σ H { s with heap := h' } := I.turned (t' := s.toks) (fun b ob hb e => (sb.2 b hb).trans e) f0 f1 f3 f4 f5
    have st2 := st'
    obtain ⟨oi, e, c, dd⟩ := st2
    exact ⟨_, rfl, go_of (s := { s with heap := h' }) e c dd (by decide) ⟨.str ks[i].1, H, I1, by rw [ht]; exact ⟨t, rfl⟩, ⟨rfl, ks[i], List.getElem?_eq_getElem hi, rfl⟩, st', fun b hb => (hf b hb).1⟩⟩
  done := by
    intro X hP hw hK hc i pins s σ H E I hf st hg
    subst hP hw hK
    have hi : ks.length ≤ i := hg
    obtain ⟨f0, f1, f2, f3, f4, f5⟩ := hf it (by simp)
    exact next_key_end (I.ok.hd hc) st (I.kIn _ _ hl) rfl rfl (by omega) fun h' eb => ⟨rfl, I.turned (t' := s.toks) (fun b ob hb e => eb b ob hb e) f0 f1 f3 f4 f5⟩
  self := fun A i s Q E st h => wpAny_pyIter_keyiter st h
/-- for k in D, D a dict of the module -/
def iKd (ks : List (Str × Int)) (d : Addr) (td : TE) : TI := fun σ H R => td σ H fun x H1 => x = .ref d ∧ R (Itkd ks) H1
theorem pi_kd {X : Cx} {tg e : Expr} {td : TE} (D : KDi X.K X.w d ks) (he : PE X e td) : PI X tg e (iKd ks d td) := by
  refine ⟨fun pins s σ H R I h => ?_⟩
  refine thn (he.run pins s σ H _ I h) fun u s1 ⟨x, H1, I1, rx, ex, q⟩ => ?_
  subst ex
  obtain rfl : u = Value.ref d := rx
  obtain ⟨es, n, KD, hs, hk⟩ := D.ex
  exact iter_keys KD.low (I1.kIn _ _ KD.at_) ⟨rfl, rfl, rfl⟩ rfl (pi_one (tk := s1.toks) I1 _ (turn_kd _ KD.at_ hs hk) ⟨_, Heap.get?_push_size _ rfl, rfl, rfl⟩ q)
end
/-- k in D -/
def rInD (ks : List (Str × Int)) (d : Addr) : R2 := fun x y H Q => ∃ z, x = .str z ∧ y = .ref d ∧ Q (.bl (ks.lookup z).isSome) H
theorem op_inD {X : Cx} {d : Addr} {ks : List (Str × Int)} (D : KDi X.K X.w d ks) : OpR X (compareOp .In) (rInD ks d) := by
  obtain ⟨es, n, KD, _, _⟩ := D.ex
  intro pins s σ H x y v u Q I rx ry h
  obtain ⟨z, ex, ey, q⟩ := h
  obtain ⟨r, e1, e2⟩ := D.get z
  refine op_in_kd KD pins s σ H x y v u Q I rx ry ⟨z, r, ex, ey, e1, ?_⟩
  have er : r.isSome = (ks.lookup z).isSome := by
    cases q : ks.lookup z with
    | none =>
      rw [q] at e2
      simp only at e2
      rw [e2]
      rfl
    | some v =>
      rw [q] at e2
      obtain ⟨t, e2⟩ := e2
      rw [e2]
      rfl
  rw [er]
  exact q
def rNotInD (ks : List (Str × Int)) (d : Addr) : R2 := fun x y H Q => ∃ z, x = .str z ∧ y = .ref d ∧ Q (.bl (!(ks.lookup z).isSome)) H
theorem op_notInD {X : Cx} {d : Addr} {ks : List (Str × Int)} (D : KDi X.K X.w d ks) : OpR X (compareOp .NotIn) (rNotInD ks d) := by
  obtain ⟨es, n, KD, _, _⟩ := D.ex
  intro pins s σ H x y v u Q I rx ry h
  obtain ⟨z, ex, ey, q⟩ := h
  obtain ⟨r, e1, e2⟩ := D.get z
  refine op_notIn_kd KD pins s σ H x y v u Q I rx ry ⟨z, r, ex, ey, e1, ?_⟩
  have er : r.isSome = (ks.lookup z).isSome := by
    cases q : ks.lookup z with
    | none =>
      rw [q] at e2
      simp only at e2
      rw [e2]
      rfl
    | some v =>
      rw [q] at e2
      obtain ⟨t, e2⟩ := e2
      rw [e2]
      rfl
  rw [er]
  exact q
/-- D[k] -/
def rIxDi (ks : List (Str × Int)) (d : Addr) : R2 := fun x y H Q => ∃ z v, x = .ref d ∧ y = .str z ∧ ks.lookup z = some v ∧ Q (.int v) H
theorem ix_D {X : Cx} {d : Addr} {ks : List (Str × Int)} (D : KDi X.K X.w d ks) : IxR X (rIxDi ks d) := by
  obtain ⟨es, n, KD, _, _⟩ := D.ex
  intro value slice pins s σ H x y v u Q I rx ry h hs
  obtain ⟨z, v0, ex, ey, e, q⟩ := h
  obtain ⟨r, e1, e2⟩ := D.get z
  rw [e] at e2
  obtain ⟨t, e2⟩ := e2
  subst e2
  exact ix_kdict value slice pins s σ H x y v u Q I rx ry ⟨d, z, .int v0, ex, ey, ⟨es, n, .int v0 t, KD.at_, KD.lit, e1, ⟨t, rfl⟩⟩, q⟩ hs
section
variable {W : Wd} {K : PySem.W.Frag} {Γ : List (Option Dat)} {ta tb tc te tl tv tn : TE} {tt tu : TT} {tA : TA} {P R : Dat → Prop} {d a b : Dat} {G1 G0 H0 G H G2 H2 : Hp} {O : List (Addr × List Dat)} {σ : L2.St} {D : Ends} {tz ts tw : TS} {dx : Addr} {ks : List (Str × Int)}
theorem v_inD {z : Str} (ha : EvX W K ta Γ (.str z)) (hb : EvX W K tb Γ (.adr dx)) : EvX W K (tOp (rInD ks dx) ta tb) Γ (.bl (ks.lookup z).isSome) := v_opx ha hb fun G H x y k rx ry Q q => by
  cases rx
  cases ry
  exact ⟨z, rfl, rfl, q.here k (.bl _) rfl⟩
theorem v_notInD {z : Str} (ha : EvX W K ta Γ (.str z)) (hb : EvX W K tb Γ (.adr dx)) : EvX W K (tOp (rNotInD ks dx) ta tb) Γ (.bl (!(ks.lookup z).isSome)) := v_opx ha hb fun G H x y k rx ry Q q => by
  cases rx
  cases ry
  exact ⟨z, rfl, rfl, q.here k (.bl _) rfl⟩
theorem v_ixD {z : Str} {v : Int} (ha : EvX W K ta Γ (.adr dx)) (hb : EvX W K tb Γ (.str z)) (h : ks.lookup z = some v) : EvX W K (tOp (rIxDi ks dx) ta tb) Γ (.int v) := v_opx ha hb fun G H x y k rx ry Q q => by
  cases rx
  cases ry
  exact ⟨z, v, rfl, rfl, h, q.here k (.int _) rfl⟩
/-- a name of the module that holds an object -/
theorem v_adr {x : Addr} : EvX W K (tC (.ref x)) Γ (.adr x) := fun σ G H n k Q q => q.here k (.adr x) rfl
/-- [e for k in D if t], D a dict of the module -/
theorem n_lcKd {j : Nat} {R : List Dat → Prop} (A : Nat → List Dat → Prop) (h : EvX W K ta Γ (.adr dx)) (h0 : A 0 []) (ht : ∀ i k, ks[i]? = some k → Tn W K tt te ((wipeG Γ [j]).set j (some (.str k.1))) (A i) (A (i + 1))) (hR : ∀ ds, A ks.length ds → R ds) :
    EvN W K (tLc (iKd ks dx ta) (gName j) tt te [j]) Γ R := fun σ G H n k Q q =>
  h σ G H n k _ fun v d G2 H2 s e r => by
    subst e
    cases r
    have k2 := s.ok k
    refine ⟨rfl, fun Dl hD => ⟨fun i m H' => m = ks.length - i ∧ i ≤ ks.length ∧ Cm W K G2 H2 Dl (A i) H', ⟨ks.length, by omega, by omega, cm_start k2 hD h0⟩, fun i m H' ⟨hm, hi, p⟩ => ?_⟩⟩
    by_cases hlt : i < ks.length
    · refine .inr ⟨hlt, Cm W K G2 H2 Dl (A (i + 1)), fun H3 hw => ⟨ks.length - (i + 1), by omega, rfl, hlt, hw⟩, fun x H3 ⟨eH, c, hc, ex⟩ => ?_⟩
      subst eH ex
      exact ⟨wipe1, cm_turn k2 (fun G' e => env_turn (n.mono (s.gg.trans e)) (.str _)) p (ht i c hc)⟩
    · have e : i = ks.length := by omega
      subst e
      exact .inl ⟨Nat.le_refl _, cm_end p fun p xs ds G3 H3 s3 h0 g3 h3 r a => q p xs ds G3 H3 (s.trans s3) (back s h0).1 g3 h3 r (hR ds a)⟩
/-- [e for c in a text if t] -/
theorem n_lcS {j : Nat} {R : List Dat → Prop} {cs : List Nat} (A : Nat → List Dat → Prop) (h : EvX W K tl Γ (.str (tx cs))) (h0 : A 0 []) (ht : ∀ i c, cs[i]? = some c → Tn W K tt te ((wipeG Γ [j]).set j (some (.str (sg c)))) (A i) (A (i + 1))) (hR : ∀ ds, A cs.length ds → R ds) :
    EvN W K (tLc (iStr tl) (gName j) tt te [j]) Γ R := fun σ G H n k Q q =>
  h σ G H n k _ fun v d G2 H2 s e r => by
    subst e
    cases r
    have k2 := s.ok k
    refine ⟨tx cs, rfl, fun Dl hD => ⟨fun i m H' => m = cs.length - i ∧ i ≤ cs.length ∧ Cm W K G2 H2 Dl (A i) H', ⟨cs.length, by omega, by omega, cm_start k2 hD h0⟩, fun i m H' ⟨hm, hi, p⟩ => ?_⟩⟩
    by_cases hlt : i < cs.length
    · refine .inr ⟨by show i < (tx cs).cps.size; simpa using hlt, Cm W K G2 H2 Dl (A (i + 1)), fun H3 hw => ⟨cs.length - (i + 1), by omega, rfl, hlt, hw⟩, fun x H3 ⟨eH, c, hc, ex⟩ => ?_⟩
      subst eH ex
      have hc' : cs[i]? = some c := by simpa using hc
      exact ⟨wipe1, cm_turn k2 (fun G' e => env_turn (n.mono (s.gg.trans e)) (.str _)) p (ht i c hc')⟩
    · have e : i = cs.length := by omega
      subst e
      exact .inl ⟨by show (tx cs).cps.size ≤ cs.length; simp, cm_end p fun p xs ds G3 H3 s3 h0 g3 h3 r a => q p xs ds G3 H3 (s.trans s3) (back s h0).1 g3 h3 r (hR ds a)⟩
/-- for i, x in enumerate(a list that is known) -/
theorem g_forEn {ds : List Dat} {j1 j2 : Nat} {tb : TS} (h : EvX W K tl Γ (.lst ds)) (S : S4 W K G1 G0 H0 Γ O σ G H) (I : Nat → List (Option Dat) → List (Addr × List Dat) → Prop) (h0 : I 0 Γ O)
    (hs : ∀ G1 (i : Nat) d Γ' O' σ' G' H', ds[i]? = some d → I i Γ' O' → S4 W K G1 G0 H0 ((Γ'.set j1 (some (.int (i : Int)))).set j2 (some d)) O' σ' G' H' → tb { D with nx := Word W K G1 G0 H0 (I (i + 1)), ct := Word W K G1 G0 H0 (I (i + 1)), bk := D.nx } σ' H')
    (hd : ∀ Γ' O' σ' G' H', I ds.length Γ' O' → S4 W K G1 G0 H0 Γ' O' σ' G' H' → D.nx σ' H') : tFor (iEnum K (tCons tl tNil)) (gTup K 2 (gCons (gName j1) (gCons (gName j2) gNil))) tb D σ H :=
  h σ G H S.env S.ok _ fun v d G2 H2 s e r => by
    subst e
    obtain ⟨a, xs, rfl, hx, r⟩ := r.lst_inv
    have S2 := S.step s
    have hl := r.length
    have hx2 := ex_l S2.ok.ex hx
    refine ⟨a, xs, rfl, hx2, fun i m σ' H' => m = xs.length - i ∧ i ≤ xs.length ∧ Word W K G2 G0 H0 (I i) σ' H', ⟨xs.length, by omega, by omega, Γ, O, G2, h0, S2.here⟩, fun i m σ' H' ⟨hm, hi, Γ', O', G', hI, S'⟩ => ?_⟩
    have hx3 : SqL K H' a xs := ex_l (S'.fr.trans S'.ok.ex) hx
    by_cases hlt : i < xs.length
    · refine .inr ⟨⟨xs, xs[i], hx3, List.getElem?_eq_getElem hlt⟩, Word W K G2 G0 H0 (I (i + 1)), fun σ2 H2 hw => ⟨xs.length - (i + 1), by omega, rfl, hlt, hw⟩, fun x H3 ⟨T, y, ex, hT, eH, hy⟩ => ?_⟩
      subst eH ex
      have hyi := hy xs hx3
      obtain ⟨d, hd', rd⟩ := r.getV hyi
      have st : Stp W G' H' (upd G' T (.tup [.int (i : Nat), y])) (upd H' T (.tup [.int (i : Nat), y])) := Stp.new S'.ok hT
      have S3 := S'.step st
      refine ⟨T, _, rfl, t_of upd_same, rfl, _, _, rfl, _, _, rfl, rfl, ?_⟩
      exact hs G2 i d Γ' O' _ _ _ hd' hI (((S3.set (i := j1) (.int _)).set (i := j2) (rd.mono (S'.fr.trans st.gg))))
    · have e : i = xs.length := by omega
      subst e
      refine .inl ⟨⟨xs, hx3, Nat.le_refl _⟩, hd Γ' O' σ' G' H' (by rw [← hl]; exact hI) (S'.base S2.fr)⟩
theorem q_forEn {ds : List Dat} {j1 j2 : Nat} {tb : TS} (h : EvX W K tl Γ (.lst ds)) (S : S4 W K G1 G0 H0 Γ O σ G H) (I : Nat → List (Option Dat) → List (Addr × List Dat) → Prop) (h0 : I 0 Γ O)
    (hs : ∀ G1 (i : Nat) d Γ' O' σ' G' H', ds[i]? = some d → I i Γ' O' → S4 W K G1 G0 H0 ((Γ'.set j1 (some (.int (i : Int)))).set j2 (some d)) O' σ' G' H' → tb { D with nx := Word W K G1 G0 H0 (I (i + 1)), ct := Word W K G1 G0 H0 (I (i + 1)), bk := tz D } σ' H')
    (hd : ∀ Γ' O' σ' G' H', I ds.length Γ' O' → S4 W K G1 G0 H0 Γ' O' σ' G' H' → tz D σ' H') : tSeq (tFor (iEnum K (tCons tl tNil)) (gTup K 2 (gCons (gName j1) (gCons (gName j2) gNil))) tb) tz D σ H := g_forEn (D := { D with nx := tz D }) h S I h0 hs hd
/-! ## texts -/
theorem v_inS {c : Nat} {z : Str} (ha : EvX W K ta Γ (.str (sg c))) (hb : EvX W K tb Γ (.str z)) : EvX W K (tOp (fun x y H Q => ∃ (c : Nat) (z : Str), x = .str ⟨#[c]⟩ ∧ y = .str z ∧ Q (.bl (decide (c ∈ z.cps.toList))) H) ta tb) Γ (.bl (decide (c ∈ z.cps.toList))) := v_opx ha hb fun G H x y k rx ry Q q => by
  cases rx
  cases ry
  exact ⟨c, z, rfl, rfl, q.here k (.bl _) rfl⟩
theorem v_addS {i j : Str} (ha : EvX W K ta Γ (.str i)) (hb : EvX W K tb Γ (.str j)) (hz : i.length + j.length ≤ 100000) : EvX W K (tOp (fun x y H Q => ∃ i j, x = .str i ∧ y = .str j ∧ i.length + j.length ≤ sizeLine ∧ Q (.str (i ++ j)) H) ta tb) Γ (.str (i ++ j)) := v_opx ha hb fun G H x y k rx ry Q q => by
  cases rx
  cases ry
  exact ⟨i, j, rfl, rfl, sz_of hz, q.here k (.str _) rfl⟩
theorem v_leS {i j : Str} (ha : EvX W K ta Γ (.str i)) (hb : EvX W K tb Γ (.str j)) : EvX W K (tOp (fun x y H Q => ∃ i j, x = .str i ∧ y = .str j ∧ Q (.bl (!decide (j.cps.toList < i.cps.toList))) H) ta tb) Γ (.bl (!decide (j.cps.toList < i.cps.toList))) := v_opx ha hb fun G H x y k rx ry Q q => by
  cases rx
  cases ry
  exact ⟨i, j, rfl, rfl, q.here k (.bl _) rfl⟩
theorem rv_leS {i j : Str} : RV W K (fun x y H Q => ∃ i j, x = .str i ∧ y = .str j ∧ Q (.bl (!decide (j.cps.toList < i.cps.toList))) H) (.str i) (.str j) (· = .bl (!decide (j.cps.toList < i.cps.toList))) := fun G H x y k rx ry Q q => by
  cases rx
  cases ry
  exact ⟨i, j, rfl, rfl, q.here k (.bl _) rfl⟩
theorem v_ixS {cs : List Nat} {i : Int} {j c : Nat} (ha : EvX W K ta Γ (.str (tx cs))) (hb : EvX W K tb Γ (.int i)) (e : i = (j : Int)) (h : cs[j]? = some c) (hz : cs.length ≤ 100000) : EvX W K (tOp rIxS ta tb) Γ (.str (sg c)) := v_opx ha hb fun G H x y k rx ry Q q => by
  cases rx
  cases ry
  subst e
  exact ⟨tx cs, (j : Int), c, rfl, rfl, sz_of (by show (tx cs).cps.size ≤ 100000; simpa using hz), atI_nat (by simpa using h), q.here k (.str _) rfl⟩
theorem v_ixSP {cs : List Nat} {m : Int} (ha : EvX W K ta Γ (.str (tx cs))) (hb : Ev W K tb Γ (Drawn m)) (hl : (cs.length : Int) = m) (hz : cs.length ≤ 100000) : Ev W K (tOp rIxS ta tb) Γ (fun d => ∃ c ∈ cs, d = .str (sg c)) := v_op ha hb fun x y ex ⟨v, ey, h0, h1⟩ => by
  subst ex ey
  have hlt : v.toNat < cs.length := by omega
  have hx : cs[v.toNat]? = some cs[v.toNat] := List.getElem?_eq_getElem hlt
  intro G H x y k rx ry Q q
  cases rx
  cases ry
  exact ⟨tx cs, v, cs[v.toNat], rfl, rfl, sz_of (by show (tx cs).cps.size ≤ 100000; simpa using hz), by
    have e : v = ((v.toNat : Nat) : Int) := by omega
    have z : atI (tx cs).cps.toList ((v.toNat : Nat) : Int) = some cs[v.toNat] := atI_nat (by simpa using hx)
    rw [← e] at z
    exact z, q.here k (.str _) ⟨_, List.getElem_mem hlt, rfl⟩⟩
theorem v_lenS {z : Str} (h : EvX W K ta Γ (.str z)) (hz : z.length ≤ 100000) : EvX W K (tCB (fun xs H Q => ∃ z, xs = [.str z] ∧ z.length ≤ sizeLine ∧ Q (.int z.length) H) (tCons ta tNil)) Γ (.int (z.length : Nat)) := v_cbx (a_consx h a_nil) fun G H xs k r Q q => by
  cases r with
  | cons r r0 =>
    cases r0
    cases r
    exact ⟨z, rfl, sz_of hz, q.here k (.int _) rfl⟩
/-- the truth of a text -/
theorem b_truS {z : Str} (h : EvX W K ta Γ (.str z)) (hz : z.length ≤ 100000) : EvBX W K (fun σ H Q => ta σ H fun x H' => ∃ k, TruV K x H' k ∧ Q k H') Γ ((z.length : Int) != 0) := fun σ G H n k Q q =>
  h σ G H n k _ fun v e G2 H2 s ee r => by
    subst ee
    cases r
    exact ⟨_, ⟨sz_of hz, rfl⟩, q _ G2 H2 s rfl⟩
end

section
variable {X : Cx}
/-- z[::-1] of a text -/
def revS (z : Str) : Str := ⟨((Builtin.Str.strSliceIndices none none (-1) z.length).filterMap (z.cps[·]?)).toArray⟩
def tRevS (te : TE) : TE := fun σ H Q => te σ H fun x H1 => ∃ z, x = .str z ∧ (revS z).length ≤ sizeLine ∧ Q (.str (revS z)) H1
theorem pe_revS {e : Expr} {te : TE} {k : Nat} {p1 p2 p3 pos : Pos} (he : PE X e te) : PE X (.Subscript e (.Slice none none (some (.UnaryOp .USub (.Constant (.int 1) k p1) p2)) p3) pos) (tRevS te) := by
  refine ⟨fun pins s σ H Q I h => ?_⟩
  refine Subscript_ (thn (he.run pins s σ H _ I h) fun v s1 ⟨x, H1, I1, r1, q1⟩ => ?_)
  obtain ⟨z, ex, hz, q⟩ := q1
  subst ex
  obtain ⟨t, rfl⟩ := r1
  have hst : PO X (some (.UnaryOp .USub (.Constant (.int 1) k p1) p2)) (tPart (tUn (rU fun i => .int (-i)) (tC (.int 1)))) := po_some (pe_un un_neg pe_int)
  refine wpAny_Slice (thn (po_none.run pins s1 σ H1 (fun o H2 => o = none ∧ H2 = H1) I1 ⟨rfl, rfl⟩) fun vl s2 ⟨l, H2, I2, pl, el, e2⟩ => ?_)
  subst el e2
  refine thn (po_none.run pins s2 σ H2 (fun o H3 => o = none ∧ H3 = H2) I2 ⟨rfl, rfl⟩) fun vu s3 ⟨u, H3, I3, pu, eu, e3⟩ => ?_
  subst eu e3
  refine thn (hst.run pins s3 σ H3 (fun o H4 => o = some (-1) ∧ H4 = H3) I3 ⟨1, rfl, -1, rfl, rfl, rfl⟩) fun vs s4 ⟨o, H4, I4, ps, eo, e4⟩ => ?_
  subst eo e4
  obtain ⟨l, rfl, el⟩ := IsPart.raw pl
  obtain ⟨u, rfl, eu⟩ := IsPart.raw pu
  obtain ⟨o, rfl, eo⟩ := IsPart.raw ps
  have I5 : Inv X pins σ H4 { s4 with heap := s4.heap.push { cls := .type "slice", data := .fields #[partValue l, partValue u, partValue o] } } := I4.kept (t' := s4.toks) fun b ob q => Heap.get?_push_of_some _ q
  show wpAny (model X.prog X.w) X.A (subscriptTail e (.Slice none none (some (.UnaryOp .USub (.Constant (.int 1) k p1) p2)) p3) (.str z t) (.ref s4.heap.objs.size)) (EP X pins σ Q) X.xe { s4 with heap := s4.heap.push { cls := .type "slice", data := .fields #[partValue l, partValue u, partValue o] } }
  refine tail_any (ops := [.str z t, .ref s4.heap.objs.size]) (typeIs_str _ _ _) F.slot_str_getitem.lookup ?_ (by with_unfolding_all rfl)
  refine wpAny_getItem_str_slice (l := l) (u := u) (st := o) ⟨_, Heap.get?_push_size _ rfl, rfl, rfl⟩ (by rw [eo]; rfl) ?_
  unfold revS at q hz
  show Made.post (if (((o.map (·.1)).getD 1) == 1 && (Builtin.Str.strSliceIndices (l.map (·.1)) (u.map (·.1)) ((o.map (·.1)).getD 1) z.length).length == z.length) = true then Made.val (.str z t)
    else Made.str ⟨((Builtin.Str.strSliceIndices (l.map (·.1)) (u.map (·.1)) ((o.map (·.1)).getD 1) z.length).filterMap (z.cps[·]?)).toArray⟩) (EP X pins σ Q) _
  rw [eo, el, eu]
  rw [show (((some (-1) : Option Int)).getD 1 == 1) = false from rfl, Bool.false_and, if_neg Bool.false_ne_true]
  exact ⟨hz, .str _, H4, I5.tok _, ⟨_, rfl⟩, q⟩
end
end Ly

set_option maxHeartbeats 4000000
namespace Ly
open PySem L2
/-! # terms of letters -/
inductive Tm where
  | lf (c : Nat)
  | ap (l r : Tm)
deriving DecidableEq
namespace Tm
def D : Tm → Dat
  | lf c => .str (sg c)
  | ap l r => .tup [l.D, r.D]
def isAp : Tm → Bool
  | lf _ => false
  | ap _ _ => true
/-- the number of letters, of pairs, of parts -/
def size : Tm → Nat
  | lf _ => 1
  | ap l r => l.size + r.size
def pairs : Tm → Nat
  | lf _ => 0
  | ap l r => l.pairs + r.pairs + 1
def deep : Tm → Nat
  | lf _ => 0
  | ap l r => max l.deep r.deep + 1
def head : Tm → Nat
  | lf c => c
  | ap l _ => l.head
/-- the arguments, the one next to the head last -/
def args : Tm → List Tm
  | lf _ => []
  | ap l r => r :: l.args
def wound (t : Tm) : List Tm → Tm
  | [] => t
  | a :: as => ap (wound t as) a
theorem size_pos : ∀ t : Tm, 1 ≤ t.size
  | lf _ => Nat.le_refl _
  | ap l r => by
    have := l.size_pos
    show 1 ≤ l.size + r.size
    omega
theorem pairs_size : ∀ t : Tm, t.pairs + 1 = t.size
  | lf _ => rfl
  | ap l r => by
    have h1 := l.pairs_size
    have h2 := r.pairs_size
    show l.pairs + r.pairs + 1 + 1 = l.size + r.size
    omega
theorem wound_args : ∀ t : Tm, wound (lf t.head) t.args = t
  | lf c => rfl
  | ap l r => by
    show ap (wound (lf l.head) l.args) r = ap l r
    rw [l.wound_args]
theorem head_wound (t : Tm) : ∀ as, (wound t as).head = t.head
  | [] => rfl
  | a :: as => head_wound t as
theorem args_wound (t : Tm) : ∀ as, (wound t as).args = as ++ t.args
  | [] => rfl
  | a :: as => by
    show a :: (wound t as).args = a :: as ++ t.args
    rw [args_wound t as]
    rfl
theorem args_len : ∀ t : Tm, t.args.length ≤ t.pairs
  | lf _ => Nat.le_refl _
  | ap l r => by
    have := l.args_len
    show (r :: l.args).length ≤ l.pairs + r.pairs + 1
    rw [List.length_cons]
    omega
def sizes (ts : List Tm) : Nat := (ts.map size).sum
theorem sizes_cons (t : Tm) (ts : List Tm) : sizes (t :: ts) = t.size + sizes ts := by simp [sizes]
theorem sizes_app (ts us : List Tm) : sizes (ts ++ us) = sizes ts + sizes us := by simp [sizes]
theorem sizes_args : ∀ t : Tm, sizes t.args + 1 = t.size
  | lf _ => rfl
  | ap l r => by
    have := l.sizes_args
    show sizes (r :: l.args) + 1 = l.size + r.size
    rw [sizes_cons]
    omega
theorem sizes_wound (t : Tm) : ∀ as, (wound t as).size = t.size + sizes as
  | [] => by simp [wound, sizes]
  | a :: as => by
    show (wound t as).size + a.size = t.size + sizes (a :: as)
    rw [sizes_wound t as, sizes_cons]
    omega
theorem size_mem {t : Tm} {ts : List Tm} (h : t ∈ ts) : t.size ≤ sizes ts := by
  induction ts with
  | nil => cases h
  | cons u us ih =>
    rw [sizes_cons]
    rcases List.mem_cons.mp h with e | h
    · rw [e]
      omega
    · have := ih h
      omega
theorem len_sizes : ∀ ts : List Tm, ts.length ≤ sizes ts
  | [] => Nat.zero_le _
  | t :: ts => by
    have h1 := len_sizes ts
    have h2 := t.size_pos
    rw [sizes_cons, List.length_cons]
    omega
theorem deep_size : ∀ t : Tm, t.deep + 1 ≤ t.size
  | lf _ => Nat.le_refl _
  | ap l r => by
    have h1 := l.deep_size
    have h2 := r.deep_size
    have := l.size_pos
    have := r.size_pos
    show max l.deep r.deep + 1 + 1 ≤ l.size + r.size
    omega
/-! ## what a term is as data -/
theorem nl : ∀ t : Tm, NL t.D
  | lf c => by simp [D, NL]
  | ap l r => by
    have h1 := l.nl
    have h2 := r.nl
    simp [D, NL, NLs, h1, h2]
theorem nls : ∀ ts : List Tm, NLs (ts.map D)
  | [] => by simp [NLs]
  | t :: ts => by
    rw [List.map_cons, NLs]
    exact ⟨t.nl, nls ts⟩
theorem typed (t : Tm) : Ly.typed t.D = true := by cases t <;> rfl
theorem tyN_lf (c : Nat) : tyN (lf c).D = "str" := rfl
theorem tyN_ap (l r : Tm) : tyN (ap l r).D = "tuple" := rfl
theorem pl_sg {n c : Nat} (h : PyData.strOk (sg c) = true) : Pl n (.str (sg c)) := by cases n <;> simpa [Pl] using h
/-- each letter is one of a list -/
def Lt (cs : List Nat) : Tm → Prop
  | lf c => c ∈ cs
  | ap l r => l.Lt cs ∧ r.Lt cs
theorem Lt.mono {cs ds : List Nat} (h : ∀ c ∈ cs, c ∈ ds) : ∀ {t : Tm}, t.Lt cs → t.Lt ds
  | lf _, p => h _ p
  | ap _ _, p => ⟨Lt.mono h p.1, Lt.mono h p.2⟩
theorem Lt.head {cs : List Nat} : ∀ {t : Tm}, t.Lt cs → t.head ∈ cs
  | lf _, p => p
  | ap l _, p => Lt.head (t := l) p.1
theorem Lt.args {cs : List Nat} : ∀ {t : Tm}, t.Lt cs → ∀ u ∈ t.args, u.Lt cs
  | lf _, _, u, h => by cases h
  | ap l r, p, u, h => by
    rcases List.mem_cons.mp h with e | h
    · rw [e]
      exact p.2
    · exact Lt.args (t := l) p.1 u h
theorem Lt.wound {cs : List Nat} {t : Tm} (ht : t.Lt cs) : ∀ {as : List Tm}, (∀ u ∈ as, u.Lt cs) → (Tm.wound t as).Lt cs
  | [], _ => ht
  | a :: as, h => ⟨Lt.wound ht fun u hu => h u (List.mem_cons_of_mem _ hu), h a List.mem_cons_self⟩
theorem pl {cs : List Nat} (hs : ∀ c ∈ cs, PyData.strOk (sg c) = true) : ∀ {n : Nat} {t : Tm}, t.Lt cs → t.deep ≤ n → Pl n t.D
  | n, lf c, h, _ => pl_sg (hs c h)
  | 0, ap l r, _, hn => by
    have : max l.deep r.deep + 1 ≤ 0 := hn
    omega
  | n + 1, ap l r, h, hn => by
    have hn : max l.deep r.deep + 1 ≤ n + 1 := hn
    have h1 := pl hs (n := n) h.1 (by omega)
    have h2 := pl hs (n := n) h.2 (by omega)
    rw [D, Pl]
    exact ⟨by simp, by rw [Pls]; exact ⟨h1, by rw [Pls]; exact ⟨h2, by simp [Pls]⟩⟩⟩
theorem D_inj : ∀ {t u : Tm}, t.D = u.D → t = u
  | lf c, lf e, h => by
    simp [D] at h
    rw [h]
  | ap _ _, lf _, h => by simp [D] at h
  | lf _, ap _ _, h => by simp [D] at h
  | ap l r, ap l2 r2, h => by
    simp [D] at h
    rw [D_inj h.1, D_inj h.2]
/-! ## the rules of the letters: S 83, K 75, I 73 -/
abbrev need (c : Nat) : Option Nat := if c = 83 then some 3 else if c = 75 then some 2 else if c = 73 then some 1 else none
/-- the head has a rule and its arguments -/
def enough (c : Nat) (as : List Tm) : Bool := match need c with
  | some n => decide (n ≤ as.length)
  | none => false
/-- the rule of the head is used on its first arguments, which come last -/
def used (c : Nat) (as : List Tm) : Tm :=
  match as.reverse with
  | x :: r => if c = 73 then wound x r.reverse else if c = 75 then wound x (r.drop 1).reverse else
    match r with
    | y :: z :: q => wound (ap (ap x z) (ap y z)) q.reverse
    | _ => x
  | [] => lf c
mutual
/-- the step of a term -/
def stepF : Nat → Tm → Option Tm
  | 0, _ => none
  | n + 1, t => if enough t.head t.args = true then some (used t.head t.args) else (stepAt n t.args).map fun as => wound (lf t.head) as
/-- the step in the first argument that has one (the one next to the head is looked at first) -/
def stepAt : Nat → List Tm → Option (List Tm)
  | 0, _ => none
  | n + 1, [] => none
  | n + 1, a :: as => match stepAt n as with
    | some bs => some (a :: bs)
    | none => (stepF n a).map (· :: as)
end
end Tm
end Ly

set_option maxHeartbeats 4000000
namespace Ly
open PySem L2
namespace Tm
/-- a step in an argument -/
def sub : Tm → Option Tm
  | lf _ => none
  | ap l r => match sub l with
    | some l' => some (ap l' r)
    | none => (if enough r.head r.args = true then some (used r.head r.args) else sub r).map (ap l)
def step (t : Tm) : Option Tm := if enough t.head t.args = true then some (used t.head t.args) else sub t
theorem sub_ap (l r : Tm) : sub (ap l r) = match sub l with
    | some l' => some (ap l' r)
    | none => (step r).map (ap l) := rfl
/-- the step in a list of arguments, the last of them looked at first -/
def subA (f : Tm → Option Tm) : List Tm → Option (List Tm)
  | [] => none
  | a :: as => match subA f as with
    | some bs => some (a :: bs)
    | none => (f a).map (· :: as)
theorem sub_args : ∀ t : Tm, sub t = (subA step t.args).map (wound (lf t.head))
  | lf c => rfl
  | ap l r => by
    rw [sub_ap, sub_args l]
    show _ = (match subA step l.args with
      | some bs => some (r :: bs)
      | none => (step r).map (· :: l.args)).map (wound (lf l.head))
    cases subA step l.args with
    | some bs => rfl
    | none =>
      cases step r with
      | none => rfl
      | some r' =>
        show some (ap l r') = some (ap (wound (lf l.head) l.args) r')
        rw [wound_args]
theorem step_not {t : Tm} (h : enough t.head t.args = false) : step t = (subA step t.args).map (wound (lf t.head)) := by
  rw [← sub_args]
  show (if enough t.head t.args = true then some (used t.head t.args) else sub t) = _
  rw [h, if_neg Bool.false_ne_true]
theorem step_yes {t : Tm} (h : enough t.head t.args = true) : step t = some (used t.head t.args) := by
  unfold step
  rw [h, if_pos rfl]
theorem need_pos {c n : Nat} (h : need c = some n) : 1 ≤ n := by
  unfold need at h
  split at h
  · cases h; omega
  · split at h
    · cases h; omega
    · split at h
      · cases h; omega
      · cases h
theorem step_lf (c : Nat) : step (lf c) = none := by
  have h : enough (lf c).head (lf c).args = false := by
    unfold enough
    show (match need c with | some n => decide (n ≤ 0) | none => false) = false
    cases e : need c with
    | none => rfl
    | some n =>
      have := need_pos e
      exact decide_eq_false (by omega)
  rw [step_not h]
  rfl
/-! ## the search with a stack -/
/-- a part that was looked at: its head, its arguments, where it stands -/
structure Seen where
  h : Nat
  as : List Tm
  ab : Option (Nat × Nat)
/-- a part that waits: where it stands, what becomes of the whole if it changes -/
structure Wait where
  t : Tm
  ab : Option (Nat × Nat)
  f : Tm → Tm
/-- what becomes of the whole if the part at a place changes, by n steps up -/
inductive Put (s : List Seen) : Nat → Option (Nat × Nat) → (Tm → Tm) → Prop
  | root : Put s 0 none id
  | up {n a p : Nat} {e : Seen} {f : Tm → Tm} : s[a]? = some e → p < e.as.length → Put s n e.ab f → Put s (n + 1) (some (a, p)) fun t => f (wound (lf e.h) (e.as.set p t))
theorem at_more {α : Type} {s : List α} {a : Nat} {x e : α} (h : s[a]? = some x) : (s ++ [e])[a]? = some x := by
  rw [List.getElem?_append_left]
  · exact h
  · rcases Nat.lt_or_ge a s.length with z | z
    · exact z
    · rw [List.getElem?_eq_none z] at h
      cases h
theorem Put.more {s : List Seen} (e : Seen) {n : Nat} {ab : Option (Nat × Nat)} {f : Tm → Tm} (h : Put s n ab f) : Put (s ++ [e]) n ab f := by
  induction h with
  | root => exact .root
  | up h1 h2 _ ih => exact .up (at_more h1) h2 ih
/-- the first step of what waits, the first item looked at first -/
def fs : List Wait → Option Tm
  | [] => none
  | w :: ws => match step w.t with
    | some u => some (w.f u)
    | none => fs ws
theorem fs_app : ∀ a b : List Wait, fs (a ++ b) = match fs a with | some u => some u | none => fs b
  | [], b => rfl
  | w :: ws, b => by
    show (match step w.t with | some u => some (w.f u) | none => fs (ws ++ b)) = match (match step w.t with | some u => some (w.f u) | none => fs ws) with | some u => some u | none => fs b
    cases step w.t with
    | some u => rfl
    | none => exact fs_app ws b
/-- the arguments that wait, those from the index k on: all of them as, of the part with the number n -/
def its (n : Nat) (g : Nat → Tm → Tm) : Nat → List Tm → List Wait
  | _, [] => []
  | k, a :: as => its n g (k + 1) as ++ if a.isAp = true then [⟨a, some (n, k), g k⟩] else []
theorem its_snoc (n : Nat) (g : Nat → Tm → Tm) : ∀ (k : Nat) (as : List Tm) (a : Tm), its n g k (as ++ [a]) = (if a.isAp = true then [⟨a, some (n, k + as.length), g (k + as.length)⟩] else []) ++ its n g k as
  | k, [], a => by
    show its n g (k + 1) [] ++ _ = _ ++ its n g k []
    simp [its]
  | k, b :: as, a => by
    show its n g (k + 1) (as ++ [a]) ++ _ = _ ++ (its n g (k + 1) as ++ _)
    rw [its_snoc n g (k + 1) as a, List.append_assoc]
    have e : k + 1 + as.length = k + (b :: as).length := by rw [List.length_cons]; omega
    rw [e]
theorem fs_its (n : Nat) (F : List Tm → Tm) : ∀ (as pre : List Tm), fs (its n (fun i t => F ((pre ++ as).set i t)) pre.length as) = (subA step as).map fun bs => F (pre ++ bs)
  | [], pre => rfl
  | a :: as, pre => by
    have ih := fs_its n F as (pre ++ [a])
    rw [List.append_assoc, List.length_append] at ih
    show fs (its n _ (pre.length + 1) as ++ _) = (match subA step as with | some bs => some (a :: bs) | none => (step a).map (· :: as)).map _
    rw [fs_app]
    have ih2 : fs (its n (fun i t => F ((pre ++ a :: as).set i t)) (pre.length + 1) as) = (subA step as).map fun bs => F (pre ++ [a] ++ bs) := ih
    rw [ih2]
    cases subA step as with
    | some bs => simp
    | none =>
      cases a with
      | lf c =>
        rw [step_lf]
        rfl
      | ap l r =>
        show (match step (ap l r) with | some u => some (F ((pre ++ ap l r :: as).set pre.length u)) | none => none) = _
        cases step (ap l r) with
        | none => rfl
        | some u =>
          show some (F ((pre ++ ap l r :: as).set pre.length u)) = some (F (pre ++ u :: as))
          rw [List.set_append_right _ _ (Nat.le_refl _), Nat.sub_self]
          rfl
theorem its_sizes (n : Nat) (g : Nat → Tm → Tm) : ∀ (k : Nat) (as : List Tm), sizes ((its n g k as).map (·.t)) ≤ sizes as
  | _, [] => Nat.le_refl _
  | k, a :: as => by
    have ih := its_sizes n g (k + 1) as
    show sizes ((its n g (k + 1) as ++ _).map (·.t)) ≤ _
    rw [List.map_append, sizes_app, sizes_cons]
    split
    · simp [sizes] at ih ⊢
      omega
    · simp [sizes] at ih ⊢
      omega
theorem its_put {s : List Seen} {e : Seen} {m : Nat} {f : Tm → Tm} (h : Put s m e.ab f) : ∀ (as pre : List Tm), e.as = pre ++ as → ∀ w ∈ its s.length (fun i t => f (wound (lf e.h) (e.as.set i t))) pre.length as, ∃ k, Put (s ++ [e]) k w.ab w.f
  | [], _, _, w, hw => by cases hw
  | a :: as, pre, ea, w, hw => by
    have hw : w ∈ its s.length (fun i t => f (wound (lf e.h) (e.as.set i t))) (pre.length + 1) as ++ if a.isAp = true then [⟨a, some (s.length, pre.length), _⟩] else [] := hw
    rcases List.mem_append.mp hw with hw | hw
    · exact its_put h as (pre ++ [a]) (by rw [ea, List.append_assoc]; rfl) w (by rw [List.length_append]; exact hw)
    · split at hw
      · have ew := List.mem_singleton.mp hw
        rw [ew]
        exact ⟨m + 1, .up (by rw [List.getElem?_append_right (Nat.le_refl _), Nat.sub_self]; rfl) (by rw [ea, List.length_append, List.length_cons]; omega) (h.more e)⟩
      · cases hw
/-- how the search stands: what was looked at, what waits (the next one first) -/
structure Srch (t : Tm) (s : List Seen) (w : List Wait) : Prop where
  put : ∀ x ∈ w, ∃ k, Put s k x.ab x.f
  room : s.length + sizes (w.map (·.t)) ≤ t.size
  lens : ∀ e ∈ s, e.as.length ≤ t.size
  none' : s = [] → w ≠ []
  how : (step t = fs w ∧ ∀ e, s.getLast? = some e → enough e.h e.as = false) ∨ (w = [] ∧ ∃ e k f, s.getLast? = some e ∧ enough e.h e.as = true ∧ Put s k e.ab f ∧ step t = some (f (used e.h e.as)))
theorem Srch.start (t : Tm) : Srch t [] [⟨t, none, id⟩] := by
  refine ⟨fun x hx => ⟨0, by rw [List.mem_singleton.mp hx]; exact .root⟩, by simp [sizes], (fun e h => nomatch h), (fun _ h => nomatch h), .inl ⟨?_, fun e h => nomatch h⟩⟩
  show step t = match step t with | some u => some (id u) | none => none
  cases step t <;> rfl
theorem Srch.hit {t : Tm} {s : List Seen} {x : Wait} {w : List Wait} (S : Srch t s (x :: w)) (h : enough x.t.head x.t.args = true) : Srch t (s ++ [⟨x.t.head, x.t.args, x.ab⟩]) [] := by
  obtain ⟨k, p⟩ := S.put x List.mem_cons_self
  have r := S.room
  rw [List.map_cons, sizes_cons] at r
  have hp := x.t.size_pos
  refine ⟨(fun y hy => nomatch hy), by simp [sizes]; omega, fun e he => ?_, (fun z => by simp at z), .inr ⟨rfl, ⟨x.t.head, x.t.args, x.ab⟩, k, x.f, by simp, h, p.more _, ?_⟩⟩
  · rcases List.mem_append.mp he with he | he
    · exact S.lens e he
    · rw [List.mem_singleton.mp he]
      have h1 := x.t.args_len
      have h2 := x.t.pairs_size
      show x.t.args.length ≤ t.size
      omega
  · rcases S.how with ⟨q, _⟩ | ⟨z, _⟩
    · rw [q]
      show (match step x.t with | some u => some (x.f u) | none => fs w) = _
      rw [step_yes h]
    · cases z
theorem Srch.miss {t : Tm} {s : List Seen} {x : Wait} {w : List Wait} (S : Srch t s (x :: w)) (h : enough x.t.head x.t.args = false) :
    Srch t (s ++ [⟨x.t.head, x.t.args, x.ab⟩]) (its s.length (fun i u => x.f (wound (lf x.t.head) (x.t.args.set i u))) 0 x.t.args ++ w) := by
  obtain ⟨k, p⟩ := S.put x List.mem_cons_self
  have r := S.room
  rw [List.map_cons, sizes_cons] at r
  have hz := sizes_args x.t
  have hi := its_sizes s.length (fun i u => x.f (wound (lf x.t.head) (x.t.args.set i u))) 0 x.t.args
  refine ⟨fun y hy => ?_, ?_, fun e he => ?_, (fun z => by simp at z), .inl ⟨?_, fun e he => ?_⟩⟩
  · rcases List.mem_append.mp hy with hy | hy
    · exact its_put (e := ⟨x.t.head, x.t.args, x.ab⟩) p x.t.args [] rfl y hy
    · obtain ⟨k2, p2⟩ := S.put y (List.mem_cons_of_mem _ hy)
      exact ⟨k2, p2.more _⟩
  · rw [List.length_append, List.map_append, sizes_app]
    simp only [List.length_cons, List.length_nil]
    omega
  · rcases List.mem_append.mp he with he | he
    · exact S.lens e he
    · rw [List.mem_singleton.mp he]
      have h1 := x.t.args_len
      have h2 := x.t.pairs_size
      show x.t.args.length ≤ t.size
      omega
  · rcases S.how with ⟨q, _⟩ | ⟨z, _⟩
    · rw [q, fs_app]
      have e := fs_its s.length (fun as => x.f (wound (lf x.t.head) as)) x.t.args []
      simp only [List.nil_append, List.length_nil] at e
      rw [e]
      show (match step x.t with | some u => some (x.f u) | none => fs w) = _
      rw [step_not h]
      cases subA step x.t.args <;> rfl
    · cases z
  · have z : (⟨x.t.head, x.t.args, x.ab⟩ : Seen) = e := by simpa using he
    rw [← z]
    exact h
end Tm
end Ly

set_option maxHeartbeats 4000000
namespace Ly
open PySem L2 PySem.Spec PyProof.Rows
abbrev tmsD (ts : List Tm) : List Dat := ts.map Tm.D
def ab1 : Option (Nat × Nat) → Dat
  | none => .non
  | some (a, _) => .int (a : Int)
def ab2 : Option (Nat × Nat) → Dat
  | none => .non
  | some (_, p) => .int (p : Int)
def seenD (e : Tm.Seen) : Dat := .tup [.str (sg e.h), .lst (tmsD e.as), ab1 e.ab, ab2 e.ab]
def waitD (w : Tm.Wait) : Dat := .tup [w.t.D, ab1 w.ab, ab2 w.ab]
def optD : Option Tm → Dat
  | none => .non
  | some t => t.D
section
variable {W : Wd} {K : PySem.W.Frag} {Γ : List (Option Dat)} {ta tb tc te tl tv tn : TE} {tt tu : TT} {tA : TA} {P R : Dat → Prop} {d a b : Dat} {G1 G0 H0 G H G2 H2 : Hp} {O : List (Addr × List Dat)} {σ : L2.St} {D : Ends} {tz ts tw : TS}
theorem v_isTm {t : Tm} (h : EvX W K ta Γ t.D) : EvX W K (tCB (rIsi K) (tCons ta (tCons (tC (.ty "tuple")) tNil))) Γ (.bl t.isAp) := by
  cases t with
  | lf c => exact v_isi h rfl (kit_ty kb_str_tuple)
  | ap l r => exact v_isi h rfl (kit_ty kb_tuple_tuple)
theorem v_isStr {t : Tm} (h : EvX W K ta Γ t.D) : EvX W K (tCB (rIsi K) (tCons ta (tCons (tC (.ty "str")) tNil))) Γ (.bl (!t.isAp)) := by
  cases t with
  | lf c => exact v_isi h rfl (kit_ty kb_str_str)
  | ap l r => exact v_isi h rfl (kit_ty kb_tuple_str)
theorem b_isTm {t : Tm} (h : EvX W K ta Γ t.D) : EvBX W K (tB (tCB (rIsi K) (tCons ta (tCons (tC (.ty "tuple")) tNil)))) Γ t.isAp := b_Bx (v_isTm h)
/-- xs[-k] -/
theorem atI_neg {α : Type} {xs : List α} {k : Nat} {x : α} (hk : 1 ≤ k) (hl : k ≤ xs.length) (h : xs[xs.length - k]? = some x) : atI xs (-(k : Int)) = some x := by
  unfold atI ixN
  rw [if_neg (by omega), if_pos (by omega)]
  have e : (-(k : Int) + (xs.length : Int)).toNat = xs.length - k := by omega
  rw [e]
  exact h
theorem v_ixLn {ds : List Dat} {i : Int} {k : Nat} (ha : EvX W K ta Γ (.lst ds)) (hb : EvX W K tb Γ (.int i)) (e : i = -(k : Int)) (hk : 1 ≤ k) (hl : k ≤ ds.length) (h : ds[ds.length - k]? = some d) : EvX W K (tOp (rIxL K) ta tb) Γ d := v_opx ha (e ▸ hb) fun G H x y kk rx ry Q q => by
  obtain ⟨a, xs, rfl, hs, r⟩ := rx.lst_inv
  cases ry
  obtain ⟨v, h1, h2⟩ := r.get h
  have hl2 := r.length
  exact ⟨a, xs, -(k : Int), v, rfl, rfl, ex_l kk.ex hs, atI_neg hk (by omega) (by rw [hl2]; exact h1), q.here kk h2 rfl⟩
theorem cutD_init (ds : List Dat) (k : Nat) (hk : 1 ≤ k) (hl : k ≤ ds.length) : cutD ds none (some (-(k : Int))) = ds.take (ds.length - k) := by
  unfold cutD
  have e : HT.sIx ds.length ds.length (some (-(k : Int))) = ds.length - k := by
    show (if -(k : Int) < 0 then (-(k : Int) + (ds.length : Int)).toNat else _) = _
    rw [if_pos (by omega)]
    omega
  rw [HT.sIx_none, e, List.drop_zero, Nat.sub_zero]
end
theorem lt_get {α β : Type} {f : α → β} {xs : List α} {i : Nat} {y : β} (h : (xs.map f)[i]? = some y) : ∃ x, xs[i]? = some x ∧ y = f x := by
  rw [List.getElem?_map] at h
  cases e : xs[i]? with
  | none =>
    rw [e] at h
    cases h
  | some x =>
    rw [e] at h
    exact ⟨x, rfl, (Option.some.inj h).symm⟩
end Ly

set_option maxHeartbeats 4000000
namespace Ly
open PySem L2 PySem.Spec PyProof.Rows
section
variable {W : Wd} {K : PySem.W.Frag} {Γ : List (Option Dat)} {ta tb tc te tl tv tn : TE} {tt tu : TT} {tA : TA} {P R : Dat → Prop} {d a b : Dat} {G1 G0 H0 G H G2 H2 : Hp} {O : List (Addr × List Dat)} {σ : L2.St} {D : Ends} {tz ts tw : TS}
/-- z.count(y), z.find(y) -/
theorem v_strM1 {g : Str → Str → Int} {z y : Str} (ha : EvX W K ta Γ (.str z)) (hb : EvX W K tb Γ (.str y)) : EvX W K (tBM K "str" (fun x xs H Q => ∃ a b, x = .str a ∧ xs = [.str b] ∧ Q (.int (g a b)) H) ta (tCons tb tNil)) Γ (.int (g z y)) := fun σ G H n k Q q =>
  ha σ G H n k _ fun v e G2 H2 s ee r => by
    subst ee
    cases r
    refine ⟨rfl, hb σ G2 H2 (n.mono s.gg) (s.ok k) _ fun v2 e2 G3 H3 s3 ee2 r2 => ?_⟩
    subst ee2
    cases r2
    have s13 := s.trans s3
    exact ⟨z, y, rfl, rfl, (q.step s13).here (s13.ok k) (.int _) rfl⟩
theorem txt_join0 : ∀ cs : List Nat, Str.join Str.empty (cs.map sg) = tx cs
  | [] => rfl
  | [c] => rfl
  | c :: e :: r => by
    show sg c ++ Str.empty ++ Str.join Str.empty ((e :: r).map sg) = _
    rw [txt_join0 (e :: r)]
    show (⟨(#[c] ++ #[]) ++ (e :: r).toArray⟩ : Str) = ⟨(c :: e :: r).toArray⟩
    congr 1
    simp
theorem sum_sg : ∀ cs : List Nat, ((cs.map sg).map (·.length)).sum = cs.length
  | [] => rfl
  | c :: cs => by
    rw [List.map_cons, List.map_cons, List.sum_cons, sum_sg cs, List.length_cons]
    show 1 + cs.length = _
    omega
/-- ''.join(signs) -/
theorem v_joinC {cs : List Nat} (hb : EvX W K tb Γ (.lst (cs.map fun c => .str (sg c)))) (hz : cs.length ≤ 100000) : EvX W K (tM1 (fun x xs H Q => ∃ a p, ∃ ys : List Str, x = .str a ∧ xs = [.ref p] ∧ (SqL K H p (ys.map V.str) ∨ SqT K H p (ys.map V.str)) ∧ (ys.map (·.length)).sum + ys.length * a.length ≤ 16777216 ∧ Q (.str (Txt.join a ys)) H) (tC (.str Str.empty)) tb) Γ (.str (tx cs)) := fun σ G H n k Q q => by
  refine ⟨⟨_, rfl⟩, hb σ G H n k _ fun v e G2 H2 s ee r => ?_⟩
  subst ee
  obtain ⟨a, xs, rfl, hx, r⟩ := r.lst_inv
  have ex : xs = (cs.map sg).map V.str := by
    have : ∀ (cs : List Nat) (xs : List V), Reps K G2 xs (cs.map fun c => .str (sg c)) → xs = (cs.map sg).map V.str := by
      intro cs
      induction cs with
      | nil =>
        intro xs r
        cases r
        rfl
      | cons c cs ih =>
        intro xs r
        cases r with
        | cons h r =>
          cases h
          rw [ih _ r]
          rfl
    exact this cs xs r
  subst ex
  refine ⟨Str.empty, a, cs.map sg, rfl, rfl, .inl (ex_l (s.ok k).ex hx), ?_, ?_⟩
  · have e := sum_sg cs
    rw [e]
    show cs.length + _ * 0 ≤ _
    omega
  · rw [TL.join_eq, txt_join0]
    exact (q.step s).here (s.ok k) (.str _) rfl
/-- a comparison of a drawn number, as a value -/
theorem v_drawnEq {m j : Int} (h : Ev W K ta Γ (Drawn m)) (hb : EvX W K tb Γ (.int j)) : Ev W K (tOp rEq ta tb) Γ fun d => ∃ b, d = .bl b := v_op h hb fun x z ⟨v, e, h0, h1⟩ ez => by
  subst e ez
  intro G H x y k rx ry Q q
  exact rv_eq (a := .int v) (b := .int j) rfl rfl rfl G H x y k rx ry Q fun v d G2 H2 s p r => q v d G2 H2 s ⟨_, p⟩ r
/-- k + a drawn number -/
theorem v_addD {m k : Int} (ha : EvX W K ta Γ (.int k)) (h : Ev W K tb Γ (Drawn m)) : Ev W K (tOp (rI0 fun i j => .int (i + j)) ta tb) Γ fun d => ∃ v, d = .int (k + v) ∧ 0 ≤ v ∧ v < m := v_op ha h fun x z ex ⟨v, e, h0, h1⟩ => by
  subst ex e
  intro G H x y kk rx ry Q q
  exact rv_I0 (g := fun i j => .int (i + j)) (g' := fun i j => .int (i + j)) (fun _ => .int _) G H x y kk rx ry Q fun v2 d G2 H2 s p r => q v2 d G2 H2 s ⟨v, p, h0, h1⟩ r
end
namespace Tm
/-! ## the step with the arguments from the first one on -/
def wind (t : Tm) (bs : List Tm) : Tm := bs.foldl ap t
theorem wound_rev (t : Tm) : ∀ as, wound t as = wind t as.reverse
  | [] => rfl
  | a :: as => by
    show ap (wound t as) a = _
    rw [wound_rev t as, List.reverse_cons]
    unfold wind
    rw [List.foldl_append]
    rfl
theorem wind_snoc (t : Tm) (bs : List Tm) (x : Tm) : wind t (bs ++ [x]) = ap (wind t bs) x := by
  unfold wind
  rw [List.foldl_append]
  rfl
theorem subA_none {f : Tm → Option Tm} : ∀ {as : List Tm}, (∀ a ∈ as, f a = none) → subA f as = none
  | [], _ => rfl
  | a :: as, h => by
    show (match subA f as with | some bs => some (a :: bs) | none => (f a).map (· :: as)) = none
    rw [subA_none fun x hx => h x (List.mem_cons_of_mem _ hx), h a List.mem_cons_self]
    rfl
/-- the first one, from the list's end, that has a step -/
theorem subA_at {f : Tm → Option Tm} {u : Tm} : ∀ {pre post : List Tm} {a : Tm}, (∀ x ∈ post, f x = none) → f a = some u → subA f (pre ++ a :: post) = some (pre ++ u :: post)
  | [], post, a, h, e => by
    show (match subA f post with | some bs => some (a :: bs) | none => (f a).map (· :: post)) = _
    rw [subA_none h, e]
    rfl
  | p :: pre, post, a, h, e => by
    show (match subA f (pre ++ a :: post) with | some bs => some (p :: bs) | none => _) = _
    rw [subA_at h e]
    rfl
theorem used_I (as : List Tm) (h : enough 73 as = true) : ∃ x q, as = q ++ [x] ∧ used 73 as = wound x q := by
  rcases List.eq_nil_or_concat as with e | ⟨q, x, e⟩
  · rw [e] at h
    cases h
  · rw [List.concat_eq_append] at e
    refine ⟨x, q, e, ?_⟩
    rw [e]
    unfold used
    rw [List.reverse_append]
    simp
theorem used_K (as : List Tm) (h : enough 75 as = true) : ∃ x y q, as = q ++ [y, x] ∧ used 75 as = wound x q := by
  have h : decide (2 ≤ as.length) = true := h
  have h := of_decide_eq_true h
  rcases List.eq_nil_or_concat as with e | ⟨q, x, e⟩
  · rw [e] at h
    simp at h
  · rw [List.concat_eq_append] at e
    rcases List.eq_nil_or_concat q with e2 | ⟨p, y, e2⟩
    · rw [e, e2] at h
      simp at h
    · rw [List.concat_eq_append] at e2
      refine ⟨x, y, p, by rw [e, e2]; simp, ?_⟩
      rw [e, e2]
      unfold used
      simp
theorem used_S (as : List Tm) (h : enough 83 as = true) : ∃ x y z q, as = q ++ [z, y, x] ∧ used 83 as = wound (.ap (.ap x z) (.ap y z)) q := by
  have h : decide (3 ≤ as.length) = true := h
  have h := of_decide_eq_true h
  rcases List.eq_nil_or_concat as with e | ⟨q, x, e⟩
  · rw [e] at h
    simp at h
  · rw [List.concat_eq_append] at e
    rcases List.eq_nil_or_concat q with e2 | ⟨p, y, e2⟩
    · rw [e, e2] at h
      simp at h
    · rw [List.concat_eq_append] at e2
      rcases List.eq_nil_or_concat p with e3 | ⟨o, z, e3⟩
      · rw [e, e2, e3] at h
        simp at h
      · rw [List.concat_eq_append] at e3
        refine ⟨x, y, z, o, by rw [e, e2, e3]; simp, ?_⟩
        rw [e, e2, e3]
        unfold used
        simp
theorem enough_c {c : Nat} {as : List Tm} (h : enough c as = true) : c = 83 ∨ c = 75 ∨ c = 73 := by
  unfold enough need at h
  by_cases a : c = 83
  · exact .inl a
  · by_cases b : c = 75
    · exact .inr (.inl b)
    · by_cases d : c = 73
      · exact .inr (.inr d)
      · simp [a, b, d] at h
/-! ## what a step does to size, depth, letters -/
theorem size_deep : ∀ t : Tm, t.size ≤ 2 ^ t.deep
  | lf _ => Nat.le_refl _
  | ap l r => by
    have h1 := l.size_deep
    have h2 := r.size_deep
    show l.size + r.size ≤ 2 ^ (max l.deep r.deep + 1)
    have h3 : 2 ^ l.deep ≤ 2 ^ max l.deep r.deep := Nat.pow_le_pow_right (by omega) (Nat.le_max_left _ _)
    have h4 : 2 ^ r.deep ≤ 2 ^ max l.deep r.deep := Nat.pow_le_pow_right (by omega) (Nat.le_max_right _ _)
    rw [Nat.pow_succ]
    omega
/-- the depth of arguments with what stands before them -/
theorem deep_wound (t : Tm) : ∀ as n, (wound t as).deep ≤ n ↔ (t.deep + as.length ≤ n ∧ ∀ (i : Nat) a, as[i]? = some a → a.deep + 1 + i ≤ n)
  | [], n => by simp [wound]
  | a :: as, n => by
    show max (wound t as).deep a.deep + 1 ≤ n ↔ _
    constructor
    · intro h
      have h1 := (deep_wound t as (n - 1)).mp (by omega)
      refine ⟨by rw [List.length_cons]; omega, fun i b hb => ?_⟩
      cases i with
      | zero =>
        have e : a = b := by simpa using hb
        subst e
        omega
      | succ i =>
        have := h1.2 i b (by simpa using hb)
        omega
    · rintro ⟨h1, h2⟩
      rw [List.length_cons] at h1
      have h3 := h2 0 a (by simp)
      have h4 := (deep_wound t as (n - 1)).mpr ⟨by omega, fun i b hb => by
        have := h2 (i + 1) b (by simpa using hb)
        omega⟩
      omega
theorem used_size {c : Nat} {as : List Tm} (h : enough c as = true) : (used c as).size ≤ 2 * (sizes as + 1) := by
  rcases enough_c h with rfl | rfl | rfl
  · obtain ⟨x, y, z, q, e, eu⟩ := used_S as h
    rw [eu, e, sizes_wound, sizes_app, sizes_cons, sizes_cons, sizes_cons]
    show x.size + z.size + (y.size + z.size) + sizes q ≤ _
    omega
  · obtain ⟨x, y, q, e, eu⟩ := used_K as h
    rw [eu, e, sizes_wound, sizes_app, sizes_cons, sizes_cons]
    omega
  · obtain ⟨x, q, e, eu⟩ := used_I as h
    rw [eu, e, sizes_wound, sizes_app, sizes_cons]
    omega
theorem used_deep {c : Nat} {as : List Tm} (h : enough c as = true) {n : Nat} (hn : (wound (lf c) as).deep ≤ n) : (used c as).deep ≤ n + 1 := by
  have hd := (deep_wound (lf c) as n).mp hn
  have h1 := hd.2
  have h0 := hd.1
  have at' : ∀ (q r : List Tm) (i : Nat) (a : Tm), (q ++ r)[i]? = some a → True := fun _ _ _ _ _ => trivial
  rcases enough_c h with rfl | rfl | rfl
  · obtain ⟨x, y, z, q, e, eu⟩ := used_S as h
    subst e
    rw [eu]
    rw [List.length_append] at h0
    have hx := h1 (q.length + 2) x (by simp [List.getElem?_append_right])
    have hy := h1 (q.length + 1) y (by simp [List.getElem?_append_right])
    have hz := h1 q.length z (by simp [List.getElem?_append_right])
    refine (deep_wound _ q _).mpr ⟨?_, fun i a ha => ?_⟩
    · show max (max x.deep z.deep + 1) (max y.deep z.deep + 1) + 1 + q.length ≤ n + 1
      omega
    · have := h1 i a (by
        rw [List.getElem?_append_left]
        · exact ha
        · rcases Nat.lt_or_ge i q.length with w | w
          · exact w
          · rw [List.getElem?_eq_none w] at ha
            cases ha)
      omega
  · obtain ⟨x, y, q, e, eu⟩ := used_K as h
    subst e
    rw [eu]
    have hx := h1 (q.length + 1) x (by simp [List.getElem?_append_right])
    refine (deep_wound _ q _).mpr ⟨by omega, fun i a ha => ?_⟩
    have := h1 i a (by
      rw [List.getElem?_append_left]
      · exact ha
      · rcases Nat.lt_or_ge i q.length with w | w
        · exact w
        · rw [List.getElem?_eq_none w] at ha
          cases ha)
    omega
  · obtain ⟨x, q, e, eu⟩ := used_I as h
    subst e
    rw [eu]
    have hx := h1 q.length x (by simp [List.getElem?_append_right])
    refine (deep_wound _ q _).mpr ⟨by omega, fun i a ha => ?_⟩
    have := h1 i a (by
      rw [List.getElem?_append_left]
      · exact ha
      · rcases Nat.lt_or_ge i q.length with w | w
        · exact w
        · rw [List.getElem?_eq_none w] at ha
          cases ha)
    omega
theorem used_Lt {cs : List Nat} {c : Nat} {as : List Tm} (h : enough c as = true) (ha : ∀ a ∈ as, a.Lt cs) : (used c as).Lt cs := by
  rcases enough_c h with rfl | rfl | rfl
  · obtain ⟨x, y, z, q, e, eu⟩ := used_S as h
    subst e
    rw [eu]
    have hx := ha x (by simp)
    have hy := ha y (by simp)
    have hz := ha z (by simp)
    exact Lt.wound (t := .ap (.ap x z) (.ap y z)) ⟨⟨hx, hz⟩, hy, hz⟩ fun u hu => ha u (List.mem_append_left _ hu)
  · obtain ⟨x, y, q, e, eu⟩ := used_K as h
    subst e
    rw [eu]
    exact Lt.wound (ha x (by simp)) fun u hu => ha u (List.mem_append_left _ hu)
  · obtain ⟨x, q, e, eu⟩ := used_I as h
    subst e
    rw [eu]
    exact Lt.wound (ha x (by simp)) fun u hu => ha u (List.mem_append_left _ hu)
/-- what a step of one term gives to a whole -/
structure StepG (t u : Tm) : Prop where
  size : u.size ≤ 2 * t.size
  deep : u.deep ≤ t.deep + 1
  lt : ∀ cs, t.Lt cs → u.Lt cs
theorem step_used {t : Tm} (h : enough t.head t.args = true) : StepG t (used t.head t.args) := by
  refine ⟨?_, ?_, fun cs hc => used_Lt h hc.args⟩
  · have := used_size h
    rw [sizes_args] at this
    exact this
  · have := used_deep h (n := t.deep) (by rw [wound_args]; exact Nat.le_refl _)
    exact this
theorem sub_gives : ∀ {t u : Tm}, sub t = some u → StepG t u
  | lf c, u, e => by cases e
  | ap l r, u, e => by
    rw [sub_ap] at e
    cases q : sub l with
    | some l' =>
      rw [q] at e
      cases e
      have g := sub_gives q
      have h1 := g.size
      have h2 := g.deep
      refine ⟨?_, ?_, fun cs hc => ⟨g.lt cs hc.1, hc.2⟩⟩
      · show l'.size + r.size ≤ 2 * (l.size + r.size)
        omega
      · show max l'.deep r.deep + 1 ≤ max l.deep r.deep + 1 + 1
        omega
    | none =>
      rw [q] at e
      cases w : step r with
      | none =>
        rw [w] at e
        cases e
      | some r' =>
        rw [w] at e
        cases e
        have g : StepG r r' := by
          have w2 : (if enough r.head r.args = true then some (used r.head r.args) else sub r) = some r' := w
          by_cases en : enough r.head r.args = true
          · rw [if_pos en] at w2
            cases w2
            exact step_used en
          · rw [if_neg en] at w2
            exact sub_gives w2
        have h1 := g.size
        have h2 := g.deep
        refine ⟨?_, ?_, fun cs hc => ⟨hc.1, g.lt cs hc.2⟩⟩
        · show l.size + r'.size ≤ 2 * (l.size + r.size)
          omega
        · show max l.deep r'.deep + 1 ≤ max l.deep r.deep + 1 + 1
          omega
theorem step_gives {t u : Tm} (e : step t = some u) : StepG t u := by
  have w2 : (if enough t.head t.args = true then some (used t.head t.args) else sub t) = some u := e
  by_cases en : enough t.head t.args = true
  · rw [if_pos en] at w2
    cases w2
    exact step_used en
  · rw [if_neg en] at w2
    exact sub_gives w2
end Tm
end Ly
namespace Ly
open PySem L2 PySem.Spec PyProof.Rows
theorem v_revS {W : Wd} {K : PySem.W.Frag} {Γ : List (Option Dat)} {ta : TE} {z : Str} (h : EvX W K ta Γ (.str z)) (hz : (revS z).length ≤ 100000) : EvX W K (tRevS ta) Γ (.str (revS z)) := fun σ G H n k Q q =>
  h σ G H n k _ fun v d G2 H2 s e r => by
    subst e
    cases r
    exact ⟨z, rfl, sz_of hz, (q.step s).here (s.ok k) (.str _) rfl⟩
end Ly

set_option maxHeartbeats 4000000
namespace Ly
open PySem L2 PySem.Spec PyProof.Rows
/-- the entries of a written dict: texts with ints -/
def Dkv (P : Params) : List DictEntry → List (Str × Int) → Prop
  | [], [] => True
  | e :: r, k :: ks => ((∃ t, e.key = .str k.1 t) ∧ e.hash = PyData.keyHash P k.1 ∧ ∃ t, e.val = .int k.2 t) ∧ Dkv P r ks
  | _, _ => False
theorem Dkv.lit {P : Params} : ∀ {l : List DictEntry} {ks : List (Str × Int)}, Dkv P l ks → PySem.W.KeysLit P l
  | [], [], _ => trivial
  | e :: r, k :: ks, h => ⟨by
    obtain ⟨⟨⟨t, h1⟩, h2, _⟩, _⟩ := h
    exact ⟨k.1, t, h1, h2⟩, Dkv.lit h.2⟩
  | [], _ :: _, h => h.elim
  | _ :: _, [], h => h.elim
theorem Dkv.len {P : Params} : ∀ {l : List DictEntry} {ks : List (Str × Int)}, Dkv P l ks → l.length = ks.length
  | [], [], _ => rfl
  | e :: r, k :: ks, h => by rw [List.length_cons, List.length_cons, Dkv.len h.2]
  | [], _ :: _, h => h.elim
  | _ :: _, [], h => h.elim
theorem Dkv.at' {P : Params} : ∀ {l : List DictEntry} {ks : List (Str × Int)}, Dkv P l ks → ∀ (i : Nat) (h : i < l.length) k, ks[i]? = some k → ∃ t, l[i].key = .str k.1 t
  | e :: r, k :: ks, h, 0, _, k', e' => by
    cases e'
    exact h.1.1
  | e :: r, k :: ks, h, i + 1, hi, k', e' => Dkv.at' h.2 i (by simpa using hi) k' (by simpa using e')
  | [], [], _, _, _, _, e => by simp at e
  | [], _ :: _, h, _, _, _, _ => h.elim
  | _ :: _, [], h, _, _, _, _ => h.elim
theorem Dkv.noref {P : Params} : ∀ {l : List DictEntry} {ks : List (Str × Int)}, Dkv P l ks → l.any (·.refKey) = false
  | [], [], _ => rfl
  | e :: r, k :: ks, h => by
    obtain ⟨t, h1⟩ := h.1.1
    rw [List.any_cons, Dkv.noref h.2, Bool.or_false]
    unfold DictEntry.refKey
    rw [h1]
  | [], _ :: _, h => h.elim
  | _ :: _, [], h => h.elim
theorem Dkv.find {P : Params} (x : Str) : ∀ {l : List DictEntry} {ks : List (Str × Int)}, Dkv P l ks → match ks.lookup x with
    | some v => ∃ e t, l.find? (·.key.isStr x) = some e ∧ e.val = .int v t
    | none => l.find? (·.key.isStr x) = none
  | [], [], _ => rfl
  | e :: r, (k, v) :: ks, h => by
    obtain ⟨⟨⟨t, h1⟩, _, u, h3⟩, h4⟩ := h
    have ih := Dkv.find x h4
    have hk : e.key.isStr x = (x == k) := by
      rw [h1]
      show (k == x) = (x == k)
      by_cases q : k = x
      · subst q
        rfl
      · have q1 : (k == x) = false := by simpa using q
        have q2 : (x == k) = false := by simpa using Ne.symm q
        rw [q1, q2]
    rw [List.lookup_cons, List.find?_cons, hk]
    cases q : (x == k) with
    | true => exact ⟨e, u, rfl, h3⟩
    | false => exact ih
  | [], _ :: _, h => h.elim
  | _ :: _, [], h => h.elim
theorem kdi_of {K : PySem.W.Frag} {w : World} {d : Addr} {es : Array DictEntry} {n : Nat} {ks : List (Str × Int)} (hl : K.lookup d = some ⟨.type "dict", none, .dict es n, #[]⟩) (hk : Dkv w.params es.toList ks) (low : (d == sysModules) = false) : KDi K w d ks := by
  refine ⟨⟨es, n, ⟨hl, hk.lit, low⟩, by rw [← hk.len, Array.length_toList], fun i hi k e => ?_⟩, fun x => ?_⟩
  · have := hk.at' i (by rw [Array.length_toList]; exact hi) k e
    simpa using this
  · have hf := hk.find x
    unfold PySem.W.nsIn
    rw [hl]
    simp only
    cases q : ks.lookup x with
    | some v =>
      rw [q] at hf
      obtain ⟨e, t, h1, h2⟩ := hf
      rw [h1]
      exact ⟨_, rfl, t, by rw [h2]⟩
    | none =>
      rw [q] at hf
      simp only at hf
      rw [hf]
      simp only
      rw [hk.noref]
      exact ⟨none, by simp, rfl⟩
end Ly

set_option maxHeartbeats 4000000
/-! # own errors with a field, whose __init__ says super().__init__(f'..') -/
namespace PySem
namespace SupE
open PySem.W PySem.Calls PyProof.Rows PySem.HandSPX PySem.Spec
/-- the parts of the text: signs, and the field -/
def PartOk (f : Str) : Expr → Prop
  | .Constant (.str x) 0 _ => x.length ≤ 1000
  | .FormattedValue (.Name y _) (-1) none _ => y = f
  | _ => False
def iArgs (f : Str) (p1 p2 : Pos) : Arguments := { posonlyargs := [], args := [{ arg := "self", annotation := none, pos := p1 }, { arg := f, annotation := none, pos := p2 }], vararg := none, kwonlyargs := [], kw_defaults := [], kwarg := none, defaults := [] }
def iCall (vs : List Expr) (q1 q2 q3 q4 q5 : Pos) : Expr := .Call (.Attribute (.Call (.Name "super" q1) [] [] q2) "__init__" q3) [.JoinedStr vs q4] [] q5
def iBody (f : Str) (vs : List Expr) (q1 q2 q3 q4 q5 q6 r1 r2 r3 r4 : Pos) : List Stmt := [.Expr (iCall vs q1 q2 q3 q4 q5) q6, .Assign [.Attribute (.Name "self" r1) f r2] (.Name f r3) r4]
def iScope (f : Str) : Scope := { kind := .function, names := [("self", .local), (f, .local), ("__class__", .free), ("super", .globalImplicit)], isGenerator := false, isCoroutine := false, more := [] }
/-- the fields' names -/
def FName (f : Str) : Prop := f = "line" ∨ f = "limit"
/-! ### the call of a bound ValueError.__init__ -/
section
variable {prog : Program} {w : World} {A : Around} {E : Value → Shared → Prop} {h : Heap} {g : Array GenState} {d : Drawn} {t : Nat} {os : OsState}
variable {nm q : Str} {C N : Addr} {bs bm : List Value} {hdct : Bool} {sn : List Str} {sub : List Value} {ab : Bool} {col : Option Bool} {dd : Option Addr} {k0 k1 k2 k3 k5 : Option Value}
theorem mw_call {u e t0 : Addr} {rest : List Value} {Q : Value → Shared → Prop}
    (hC : h.get? C = some (excClassObj nm q C N bs bm hdct sn sub ab col dd k0 k1 k2 k3 k5 "ValueError.__new__")) (he : h.get? e = some (excO C t0)) (hu : h.get? u = some (kxs_mw "ValueError.__init__" e)) (hz : rest.length ≤ sizeLine)
    (hq : ∀ h' t1, (∀ b o, b ≠ e → h.get? b = some o → h'.get? b = some o) → h'.get? e = some (excO C t1) → Q .none ⟨h', g, d, t, os⟩) :
    wpAny (model prog w) A (call (.ref u) rest) Q E ⟨h, g, d, t, os⟩ := by
  refine wpAny_call (codeAny_of_tree ?_)
  show wpAny _ A.in1 (callAny (.ref u) ⟨rest, []⟩) _ _ _
  simp only [callAny]
  refine wpAny_bind (wpAny_load hu ?_)
  have hb : (Value.type "method-wrapper" == Value.type "method" || Value.type "method-wrapper" == Value.type "builtin_function_or_method" || Value.type "method-wrapper" == Value.type "method-wrapper") = true := by decide
  simp only [kxs_mw, hb, if_true]
  refine W.KFB.if_so (by decide) ?_
  refine wpAny_bind (ESX.check_bound F.excBase_ValueError hC he rfl ?_)
  refine wpAny_bind (wpAny_pure (wpAny_pure ?_))
  refine ⟨Code.quiet_builtin _ (by decide +kernel), codeAny_builtin F.excBase_ValueError.initEntry ?_⟩
  rw [Around.under_plainId F.excBase_ValueError.init.plain _]
  wp_walk
  refine hq _ h.objs.size (fun b o hb' ho => ?_) ?_
  · rw [Heap.get?_update_other _ _ (Ne.symm hb')]
    exact Heap.get?_push_of_some _ ho
  · have hp := Heap.get?_push_of_some { cls := .type "tuple", data := .seq rest.toArray } he
    rw [Heap.get?_update_self _ hp rfl]
    rfl
end
/-- the facts of such an error: its class at C, its __init__ at fI -/
structure SupTxt (P : Program) (K : Frag) (mg : Str → Option Value) (X f : Str) (C fI : Addr) : Prop where
  gC : mg X = some (.ref C)
  gS : mg "super" = none
  cls : ∃ nm q N bs bm sn sub ab col dd k0 k1 k2 k3 k5, K.lookup C = some (excClassObj nm q C N bs bm true sn sub ab col dd k0 k1 k2 k3 k5 "ValueError.__new__") ∧ refsVE bm = true
  sa : findIn K (.ref C) "__setattr__" = some (some (.builtin "object.__setattr__"))
  ga : findIn K (.ref C) "__getattribute__" = some (some (.builtin "BaseException.__getattribute__"))
  gg : findIn K (.ref C) "__getattr__" = some none
  noN : findIn K (.ref C) f = some none
  iC : findIn K (.ref C) "__init__" = some (some (.ref fI))
  tC : typeIn K (.ref fI) = some (.type "function")
  kC : keepIn K (.ref C) = true
  exC : subIn K (.ref C) (.type "BaseException") = some true
  tyC : typeIn K (.ref C) = some (.type "type")
  hdC : hasDictIn K C = true
  te : exmOne K (.ref C) (.ref C) = some true
  sup : ks_superIn K C C "__init__" = some (some (.builtin "ValueError.__init__"))
  opq : nsIn K cStatics "thirdparty.any" = some none
  veB : subIn K (.ref C) (.type "ValueError") = some true
  mro : mroIn K C (.ref C) = some true
  nm : FName f
  top : (P.main.scope.names.lookup ("super" : Str)).isSome = false
  fn : ∃ (oc : Value) (od : Option Addr) (q : Str) (kV doc pm : Value) (an : Option Addr) (cda cc : Addr) (ct : Value) (osl : Array (Option Value)) (p1 p2 q1 q2 q3 q4 q5 q6 r1 r2 r3 r4 : Pos) (v1 v2 : Expr) (vs : List Expr),
    K.lookup fI = some ⟨oc, od, .func (fnX "__init__" q (iArgs f p1 p2) (iBody f (v1 :: v2 :: vs) q1 q2 q3 q4 q5 q6 r1 r2 r3 r4) (iScope f) [("__class__", cc)] .none kV doc pm an (.ref cda) ct), osl⟩ ∧ codeIn K (.ref cda) q = true ∧
    (∃ (ccl : Value) (cdd : Option Addr) (ws : Array Value) (ccs : Array (Option Value)) (file : Str) (tf : Tok), K.lookup cda = some ⟨ccl, cdd, .fields ws, ccs⟩ ∧ ws[2]? = some (.str file tf) ∧ ((P.main.file : Str) == file) = true) ∧
    (∃ (cl : Value) (cld : Option Addr) (csl : Array (Option Value)), K.lookup cc = some ⟨cl, cld, .cell (some (.ref C)), csl⟩) ∧
    (∀ v ∈ v1 :: v2 :: vs, PartOk f v) ∧ vs.length ≤ 10 ∧ (q3.endLine == q5.line) = true
/-- what such an __init__ leaves of a fresh exception at x -/
structure InitEnd (f : Str) (h h' : Heap) (x C dx t1 : Addr) (v : Value) : Prop where
  keep : ∀ b o, b ≠ x → h.get? b = some o → h'.get? b = some o
  obj : h'.get? x = some { cls := .ref C, dict := some dx, data := .fields #[.ref t1, .none, .none, .none, .bool false, .none] }
  dbig : h.objs.size ≤ dx
  dne : dx ≠ x
  ns : h'.Ns1 dx (fun y => if y = f then some v else none)
section
variable {prog : Program} {w : World} {A : Around} {E : Value → Shared → Prop} {R : Result → Shared → Prop} {s : Shared} {K : Frag} {mg : Str → Option Value} {base : Heap} {X f : Str} {C fI : Addr}
/-- the parts, one behind the other -/
theorem parts_run {env : Env} {m : Str → Option Value} {i : Int} {tk : Tok} (hk : env.scope.kind = .function) (hl : env.kindOf f = some .local) (hd : (f == ("__debug__" : Str)) = false) (hv : m f = some (.int i tk)) (hi : i.natAbs.log2 < 1920) :
    ∀ (vs : List Expr) (acc : Str) (s : Shared) (R : Str → Shared → Prop), (∀ v ∈ vs, PartOk f v) → acc.length + vs.length * 3000 ≤ 100000 → s.heap.Ns env.locals m →
    (∀ out tk', out.length ≤ 100000 → R out { s with toks := tk' }) → Joins (model prog w) A E (evalEach vs env) acc R s
  | [], acc, s, R, _, hz, _, k => by
    have e0 : evalEach [] env = [] := by first | rfl | simp [evalEach]
    rw [e0]
    exact k acc s.toks (by simp at hz; omega)
  | v :: vs, acc, s, R, hp, hz, hn, k => by
    have e0 : evalEach (v :: vs) env = eval v env :: evalEach vs env := by first | rfl | simp [evalEach]
    rw [e0]
    rw [List.length_cons] at hz
    have h1 := hp v List.mem_cons_self
    have h2 : ∀ v ∈ vs, PartOk f v := fun u hu => hp u (List.mem_cons_of_mem _ hu)
    have lapp : ∀ a b : Str, (a ++ b).length = a.length + b.length := fun a b => strLen_append a b
    unfold PartOk at h1
    split at h1
    · rename_i x p
      refine wpAny_Constant_str ⟨x, _, rfl, by rw [lapp, sizeLine_eq]; omega, ?_⟩
      exact parts_run hk hl hd hv hi vs (acc ++ x) _ R h2 (by rw [lapp]; omega) hn fun out tk' ho => k out tk' ho
    · rename_i y p1 p2
      rw [h1]
      refine wpAny_FormattedValue_plain (wpAny_Name (wpAny_loadName_local hk hl hn hv ?_) hd)
      have hlen : (Str.ofString (toString i)).length ≤ 2000 := by
        have e := int_text_length_le (k := 1920) (by decide) hi
        rw [ofString_length]
        omega
      refine wpAny_formatField_int hi ⟨toString i, _, rfl, by rw [lapp, sizeLine_eq]; omega, ?_⟩
      exact parts_run hk hl hd hv hi vs (acc ++ toString i) _ R h2 (by rw [lapp]; omega) hn fun out tk' ho => k out tk' ho
    · exact h1.elim
theorem sup_init_line (T : SupTxt prog K mg X "line" C fI) (MD : L2.Mod K mg base) {x t0 : Addr} {i : Int} {tk0 : Tok} (kb : ∀ b o, base.get? b = some o → s.heap.get? b = some o) (hlim : s.heap.NoLimit) (hx : s.heap.get? x = some (excO C t0)) (hnx : K.lookup x = none) (hi : i.natAbs.log2 < 1920) (hroom : A.depth < recursionLimit)
    (hq : ∀ h' tk dx t1, InitEnd "line" s.heap h' x C dx t1 (.int i tk0) → R (.ok (.ret .none)) { s with heap := h', toks := tk }) :
    codeAny (model prog w) A (.call (.ref fI) ⟨[.ref x, .int i tk0], []⟩) R s := by
  obtain ⟨oc, od, q, kV, doc, pm, an, cda, cc, ct, osl, p1, p2, q1, q2, q3, q4, q5, q6, r1, r2, r3, r4, v1, v2, vs, ho, hcd, ⟨ccl, cdd, ws, ccs, file, tf, hcode, hws, hfile⟩, ⟨cl, cld, csl, hcell⟩, hparts, hpl, hline⟩ := T.fn
  obtain ⟨nm, qn, N, bs, bm, sn, sub, ab, col, dd, k0, k1, k2, k3, k5, hC, hbm⟩ := T.cls
  have hcl : clsIn K C = some { name := nm, bases := bs, mro := .ref C :: bm, ns := N, qualname := qn, hasDict := true, slotNames := sn, subclasses := sub, abstract := ab, collection := col, hasDel := false } := by unfold clsIn; rw [hC] <;> rfl
  have Xi : K.In s.heap := fun a o e => kb _ _ (MD.kin a o e)
  refine ks_codeAny_call_defAt (fd := fnX "__init__" q (iArgs "line" p1 p2) (iBody "line" (v1 :: v2 :: vs) q1 q2 q3 q4 q5 q6 r1 r2 r3 r4) (iScope "line") [("__class__", cc)] .none kV doc pm an (.ref cda) ct) (body := iBody "line" (v1 :: v2 :: vs) q1 q2 q3 q4 q5 q6 r1 r2 r3 r4) (binds := ([("self", .ref x), ("line", .int i tk0)] : List (Str × Value)))
    hroom (Xi _ _ ho) rfl hlim (codeRec_of Xi hcd) rfl (BindsTo.of_eq (by first | rfl | with_unfolding_all rfl)) (show ∀ x ∈ (iScope "line").names, x.2 ≠ NameKind.cell by decide) (fun y hy => ?_) (fun h₁ hns k₁ => ?_) rfl rfl rfl
  · simp only [List.mem_cons, List.not_mem_nil, or_false] at hy
    rcases hy with rfl | rfl <;> rfl
  have hxL : s.heap.objs.size ≠ x := Nat.ne_of_gt (Heap.lt_size hx)
  have X₁ : K.In h₁ := Xi.keeps k₁
  have hx₁ := k₁ _ _ hx
  have mself : (([("self", Value.ref x), ("line", Value.int i tk0)] : List (Str × Value)).reverse.lookup (PySem.Str.ofString "self")) = some (Value.ref x) := by rfl
  have mf : (([("self", Value.ref x), ("line", Value.int i tk0)] : List (Str × Value)).reverse.lookup (PySem.Str.ofString "line")) = some (Value.int i tk0) := by rfl
  show wpAt (model prog w) (A.deeper (ksEnv q (iScope "line") s.heap.objs.size fI (.ref cda) cc)) (.func (iBody "line" (v1 :: v2 :: vs) q1 q2 q3 q4 q5 q6 r1 r2 r3 r4) (ksEnv q (iScope "line") s.heap.objs.size fI (.ref cda) cc)) (execs (iBody "line" (v1 :: v2 :: vs) q1 q2 q3 q4 q5 q6 r1 r2 r3 r4) (ksEnv q (iScope "line") s.heap.objs.size fI (.ref cda) cc)) _ _ _
  -- super().__init__(..)
  refine ks_wpAt_execs_cons (ks_wpAt_Expr_any (ks_wpAt_MethodCall (pl := (do return (← importBound (.Call (.Name "super" q1) [] [] q2) (ksEnv q (iScope "line") s.heap.objs.size fI (.ref cda) cc)).getD true)) ?_ ?_) rfl rfl)
  rotate_left
  · have hp : methodCallPos true (.Call (.Name "super" q1) [] [] q2) (ksEnv q (iScope "line") s.heap.objs.size fI (.ref cda) cc) q3 q5 = pure q5 := by
      unfold methodCallPos
      rw [hline]
      rfl
    have hf : ∀ a, methodCallForm 1 (backTo q5 (starEach [.JoinedStr (v1 :: v2 :: vs) q4] a)) (backToKw q5 (keywordEach [] a)) = true := fun a => by rfl
    show (attributeBase _ _ _ _ >>= fun ov => standAt q3.atName >>= fun _ => methodCall _ _ q3 q5 _ ov ([Expr.JoinedStr (v1 :: v2 :: vs) q4].length + ([] : List Keyword).length) _ _) = _
    unfold methodCall
    simp only [List.length_cons, List.length_nil, Nat.zero_add, Nat.add_zero, hf, hp, pure_bind]
    rfl
  have hD1 := X₁ _ _ hC
  refine ks_wpAt_super_base (env := ksEnv q (iScope "line") s.heap.objs.size fI (.ref cda) cc) rfl rfl rfl rfl (X₁ _ _ ho) rfl (ar := { arg := "self", annotation := none, pos := p1 }) rfl rfl (X₁ _ _ hcode) rfl hws hfile T.top ?_
  obtain ⟨mb, hb1, hb2⟩ := MD.blt
  have kbb : ∀ b o, base.get? b = some o → h₁.get? b = some o := fun b o e => k₁ b o (kb b o e)
  refine ks_loadName_global rfl rfl (loadGlobal_builtin (env := ksEnv q (iScope "line") s.heap.objs.size fI (.ref cda) cc) (MD.glob.keeps kbb) T.gS (hb1.keeps kbb) ((hb2 _ (by decide)).trans (by first | rfl | kernel_rfl)) ⟨rfl, ?_⟩)
  refine wpAny_loadName_free rfl rfl rfl ⟨_, X₁ _ _ hcell, rfl⟩ ?_
  refine wpAny_loadName_local rfl rfl hns mself ?_
  refine ks_wpAny_isType_cls hD1 rfl ⟨rfl, ?_⟩
  refine ks_wpAny_call_super hD1 rfl hx₁ rfl (fun c e => by cases e) (looks_mroIn X₁ T.mro) (fun h₂ so k₂ => ?_)
  have X₂ : K.In h₂ := X₁.keeps k₂
  have I₂ : InstAt h₂ x (excO C t0) C none := ⟨k₂ _ _ hx₁, rfl, rfl, trivial⟩
  have hsup := T.sup
  unfold ks_superIn at hsup
  rw [hcl] at hsup
  refine kxs_getMethod kxs_ValueError so (looks_opaque X₂ T.opq) (l₀ := .ref C :: bm) (fun A Q E s k q => wpAny_bind ((looks_clsIn X₂ hcl) A _ E s k (wpAny_pure q))) rfl X₂ hsup (I₂.type.andThen (looks_subIn X₂ T.veB)) (ks_ne X₂ I₂ hcl) rfl ?_
  have k₃ : ∀ b o, h₂.get? b = some o → (h₂.push (kxs_mw "ValueError.__init__" x)).get? b = some o := fun b o e => Heap.get?_push_of_some _ e
  have he : starEach [Expr.JoinedStr (v1 :: v2 :: vs) q4] (ksEnv q (iScope "line") s.heap.objs.size fI (.ref cda) cc) = (false, eval (Expr.JoinedStr (v1 :: v2 :: vs) q4) (ksEnv q (iScope "line") s.heap.objs.size fI (.ref cda) cc)) :: starEach [] (ksEnv q (iScope "line") s.heap.objs.size fI (.ref cda) cc) := by rfl
  have k₁₃ : ∀ b o, h₁.get? b = some o → (h₂.push (kxs_mw "ValueError.__init__" x)).get? b = some o := fun b o e => k₃ b o (k₂ b o e)
  have hu : (h₂.push (kxs_mw "ValueError.__init__" x)).get? h₂.objs.size = some (kxs_mw "ValueError.__init__" x) := Heap.get?_push_at rfl rfl
  refine kxs_callWith (i := "ValueError.__init__") (x := x) (by rw [he]; rfl) ?_
  rw [he]
  refine evalArgs_plain ?_
  show wpAny _ _ (spliced (backTo q5 ((false, eval (Expr.JoinedStr (v1 :: v2 :: vs) q4) (ksEnv q (iScope "line") s.heap.objs.size fI (.ref cda) cc)) :: starEach [] (ksEnv q (iScope "line") s.heap.objs.size fI (.ref cda) cc)))) _ _ _
  rw [← he]
  refine spliced_more (env := ksEnv q (iScope "line") s.heap.objs.size fI (.ref cda) cc) (e := Expr.JoinedStr (v1 :: v2 :: vs) q4) (rest := []) ?_ he
  refine wpAny_JoinedStr (parts_run rfl rfl rfl mf hi (v1 :: v2 :: vs) Str.empty _ _ hparts ?_ (hns.keeps k₁₃) fun out tk' hout => ⟨by rw [sizeLine_eq]; omega, ?_⟩)
  · show 0 + (v1 :: v2 :: vs).length * 3000 ≤ 100000
    simp only [List.length_cons]
    omega
  refine spliced_none ⟨hu, ?_⟩
  refine mw_call (X₁.keeps k₁₃ _ _ hC) (k₁₃ _ _ hx₁) hu (by rw [sizeLine_eq]; show 1 ≤ _; omega) fun h₄ t1 k₄ hx₄ => ?_
  -- self.f = f
  have k₁₄ : ∀ b o, b ≠ x → h₁.get? b = some o → h₄.get? b = some o := fun b o hb e => k₄ b o hb (k₁₃ b o e)
  have X₄ : K.In h₄ := fun a o e => k₁₄ a o (fun z => by rw [z, hnx] at e; cases e) (X₁ a o e)
  have hn₄ : h₄.Ns s.heap.objs.size (fun y => ([("self", Value.ref x), ("line", Value.int i tk0)] : List (Str × Value)).reverse.lookup y) := by
    obtain ⟨oL, es, ep, hL, rr⟩ := hns
    exact ⟨oL, es, ep, k₁₄ _ _ hxL hL, rr⟩
  show wpAt _ _ _ (execs _ _) _ _ _
  refine wpAt_of_wpAny (wpAny_execs_cons (plainObj_wpAny_Assign_Attribute ?_))
  refine ESX.ldL hn₄ mf (ESX.ldL hn₄ mself ?_)
  refine set_plain X₄ (ox := excO C t1) (od := none) ⟨hx₄, rfl, rfl, trivial⟩ T.sa ?_
  refine HandSPX.exc_osa X₄ hx₄ hcl (show refsVE (.ref C :: bm) = true from hbm) rfl T.noN (fun h₅ tk₅ dx k₅ dn dne hx₅ hn₅ => ?_)
  show wpAny _ _ (execs _ _) _ _ _
  refine wpAny_execs_nil (hq h₅ tk₅ dx t1 ⟨fun b o hb e => k₅ b o hb (k₁₄ b o hb (k₁ b o e)), hx₅, ?_, dne, hn₅⟩)
  have hL4 := hn₄.lt
  exact Nat.le_of_lt (Nat.lt_of_lt_of_le hL4 dn)
theorem sup_init_limit (T : SupTxt prog K mg X "limit" C fI) (MD : L2.Mod K mg base) {x t0 : Addr} {i : Int} {tk0 : Tok} (kb : ∀ b o, base.get? b = some o → s.heap.get? b = some o) (hlim : s.heap.NoLimit) (hx : s.heap.get? x = some (excO C t0)) (hnx : K.lookup x = none) (hi : i.natAbs.log2 < 1920) (hroom : A.depth < recursionLimit)
    (hq : ∀ h' tk dx t1, InitEnd "limit" s.heap h' x C dx t1 (.int i tk0) → R (.ok (.ret .none)) { s with heap := h', toks := tk }) :
    codeAny (model prog w) A (.call (.ref fI) ⟨[.ref x, .int i tk0], []⟩) R s := by
  obtain ⟨oc, od, q, kV, doc, pm, an, cda, cc, ct, osl, p1, p2, q1, q2, q3, q4, q5, q6, r1, r2, r3, r4, v1, v2, vs, ho, hcd, ⟨ccl, cdd, ws, ccs, file, tf, hcode, hws, hfile⟩, ⟨cl, cld, csl, hcell⟩, hparts, hpl, hline⟩ := T.fn
  obtain ⟨nm, qn, N, bs, bm, sn, sub, ab, col, dd, k0, k1, k2, k3, k5, hC, hbm⟩ := T.cls
  have hcl : clsIn K C = some { name := nm, bases := bs, mro := .ref C :: bm, ns := N, qualname := qn, hasDict := true, slotNames := sn, subclasses := sub, abstract := ab, collection := col, hasDel := false } := by unfold clsIn; rw [hC] <;> rfl
  have Xi : K.In s.heap := fun a o e => kb _ _ (MD.kin a o e)
  refine ks_codeAny_call_defAt (fd := fnX "__init__" q (iArgs "limit" p1 p2) (iBody "limit" (v1 :: v2 :: vs) q1 q2 q3 q4 q5 q6 r1 r2 r3 r4) (iScope "limit") [("__class__", cc)] .none kV doc pm an (.ref cda) ct) (body := iBody "limit" (v1 :: v2 :: vs) q1 q2 q3 q4 q5 q6 r1 r2 r3 r4) (binds := ([("self", .ref x), ("limit", .int i tk0)] : List (Str × Value)))
    hroom (Xi _ _ ho) rfl hlim (codeRec_of Xi hcd) rfl (BindsTo.of_eq (by first | rfl | with_unfolding_all rfl)) (show ∀ x ∈ (iScope "limit").names, x.2 ≠ NameKind.cell by decide) (fun y hy => ?_) (fun h₁ hns k₁ => ?_) rfl rfl rfl
  · simp only [List.mem_cons, List.not_mem_nil, or_false] at hy
    rcases hy with rfl | rfl <;> rfl
  have hxL : s.heap.objs.size ≠ x := Nat.ne_of_gt (Heap.lt_size hx)
  have X₁ : K.In h₁ := Xi.keeps k₁
  have hx₁ := k₁ _ _ hx
  have mself : (([("self", Value.ref x), ("limit", Value.int i tk0)] : List (Str × Value)).reverse.lookup (PySem.Str.ofString "self")) = some (Value.ref x) := by rfl
  have mf : (([("self", Value.ref x), ("limit", Value.int i tk0)] : List (Str × Value)).reverse.lookup (PySem.Str.ofString "limit")) = some (Value.int i tk0) := by rfl
  show wpAt (model prog w) (A.deeper (ksEnv q (iScope "limit") s.heap.objs.size fI (.ref cda) cc)) (.func (iBody "limit" (v1 :: v2 :: vs) q1 q2 q3 q4 q5 q6 r1 r2 r3 r4) (ksEnv q (iScope "limit") s.heap.objs.size fI (.ref cda) cc)) (execs (iBody "limit" (v1 :: v2 :: vs) q1 q2 q3 q4 q5 q6 r1 r2 r3 r4) (ksEnv q (iScope "limit") s.heap.objs.size fI (.ref cda) cc)) _ _ _
  -- super().__init__(..)
  refine ks_wpAt_execs_cons (ks_wpAt_Expr_any (ks_wpAt_MethodCall (pl := (do return (← importBound (.Call (.Name "super" q1) [] [] q2) (ksEnv q (iScope "limit") s.heap.objs.size fI (.ref cda) cc)).getD true)) ?_ ?_) rfl rfl)
  rotate_left
  · have hp : methodCallPos true (.Call (.Name "super" q1) [] [] q2) (ksEnv q (iScope "limit") s.heap.objs.size fI (.ref cda) cc) q3 q5 = pure q5 := by
      unfold methodCallPos
      rw [hline]
      rfl
    have hf : ∀ a, methodCallForm 1 (backTo q5 (starEach [.JoinedStr (v1 :: v2 :: vs) q4] a)) (backToKw q5 (keywordEach [] a)) = true := fun a => by rfl
    show (attributeBase _ _ _ _ >>= fun ov => standAt q3.atName >>= fun _ => methodCall _ _ q3 q5 _ ov ([Expr.JoinedStr (v1 :: v2 :: vs) q4].length + ([] : List Keyword).length) _ _) = _
    unfold methodCall
    simp only [List.length_cons, List.length_nil, Nat.zero_add, Nat.add_zero, hf, hp, pure_bind]
    rfl
  have hD1 := X₁ _ _ hC
  refine ks_wpAt_super_base (env := ksEnv q (iScope "limit") s.heap.objs.size fI (.ref cda) cc) rfl rfl rfl rfl (X₁ _ _ ho) rfl (ar := { arg := "self", annotation := none, pos := p1 }) rfl rfl (X₁ _ _ hcode) rfl hws hfile T.top ?_
  obtain ⟨mb, hb1, hb2⟩ := MD.blt
  have kbb : ∀ b o, base.get? b = some o → h₁.get? b = some o := fun b o e => k₁ b o (kb b o e)
  refine ks_loadName_global rfl rfl (loadGlobal_builtin (env := ksEnv q (iScope "limit") s.heap.objs.size fI (.ref cda) cc) (MD.glob.keeps kbb) T.gS (hb1.keeps kbb) ((hb2 _ (by decide)).trans (by first | rfl | kernel_rfl)) ⟨rfl, ?_⟩)
  refine wpAny_loadName_free rfl rfl rfl ⟨_, X₁ _ _ hcell, rfl⟩ ?_
  refine wpAny_loadName_local rfl rfl hns mself ?_
  refine ks_wpAny_isType_cls hD1 rfl ⟨rfl, ?_⟩
  refine ks_wpAny_call_super hD1 rfl hx₁ rfl (fun c e => by cases e) (looks_mroIn X₁ T.mro) (fun h₂ so k₂ => ?_)
  have X₂ : K.In h₂ := X₁.keeps k₂
  have I₂ : InstAt h₂ x (excO C t0) C none := ⟨k₂ _ _ hx₁, rfl, rfl, trivial⟩
  have hsup := T.sup
  unfold ks_superIn at hsup
  rw [hcl] at hsup
  refine kxs_getMethod kxs_ValueError so (looks_opaque X₂ T.opq) (l₀ := .ref C :: bm) (fun A Q E s k q => wpAny_bind ((looks_clsIn X₂ hcl) A _ E s k (wpAny_pure q))) rfl X₂ hsup (I₂.type.andThen (looks_subIn X₂ T.veB)) (ks_ne X₂ I₂ hcl) rfl ?_
  have k₃ : ∀ b o, h₂.get? b = some o → (h₂.push (kxs_mw "ValueError.__init__" x)).get? b = some o := fun b o e => Heap.get?_push_of_some _ e
  have he : starEach [Expr.JoinedStr (v1 :: v2 :: vs) q4] (ksEnv q (iScope "limit") s.heap.objs.size fI (.ref cda) cc) = (false, eval (Expr.JoinedStr (v1 :: v2 :: vs) q4) (ksEnv q (iScope "limit") s.heap.objs.size fI (.ref cda) cc)) :: starEach [] (ksEnv q (iScope "limit") s.heap.objs.size fI (.ref cda) cc) := by rfl
  have k₁₃ : ∀ b o, h₁.get? b = some o → (h₂.push (kxs_mw "ValueError.__init__" x)).get? b = some o := fun b o e => k₃ b o (k₂ b o e)
  have hu : (h₂.push (kxs_mw "ValueError.__init__" x)).get? h₂.objs.size = some (kxs_mw "ValueError.__init__" x) := Heap.get?_push_at rfl rfl
  refine kxs_callWith (i := "ValueError.__init__") (x := x) (by rw [he]; rfl) ?_
  rw [he]
  refine evalArgs_plain ?_
  show wpAny _ _ (spliced (backTo q5 ((false, eval (Expr.JoinedStr (v1 :: v2 :: vs) q4) (ksEnv q (iScope "limit") s.heap.objs.size fI (.ref cda) cc)) :: starEach [] (ksEnv q (iScope "limit") s.heap.objs.size fI (.ref cda) cc)))) _ _ _
  rw [← he]
  refine spliced_more (env := ksEnv q (iScope "limit") s.heap.objs.size fI (.ref cda) cc) (e := Expr.JoinedStr (v1 :: v2 :: vs) q4) (rest := []) ?_ he
  refine wpAny_JoinedStr (parts_run rfl rfl rfl mf hi (v1 :: v2 :: vs) Str.empty _ _ hparts ?_ (hns.keeps k₁₃) fun out tk' hout => ⟨by rw [sizeLine_eq]; omega, ?_⟩)
  · show 0 + (v1 :: v2 :: vs).length * 3000 ≤ 100000
    simp only [List.length_cons]
    omega
  refine spliced_none ⟨hu, ?_⟩
  refine mw_call (X₁.keeps k₁₃ _ _ hC) (k₁₃ _ _ hx₁) hu (by rw [sizeLine_eq]; show 1 ≤ _; omega) fun h₄ t1 k₄ hx₄ => ?_
  -- self.f = f
  have k₁₄ : ∀ b o, b ≠ x → h₁.get? b = some o → h₄.get? b = some o := fun b o hb e => k₄ b o hb (k₁₃ b o e)
  have X₄ : K.In h₄ := fun a o e => k₁₄ a o (fun z => by rw [z, hnx] at e; cases e) (X₁ a o e)
  have hn₄ : h₄.Ns s.heap.objs.size (fun y => ([("self", Value.ref x), ("limit", Value.int i tk0)] : List (Str × Value)).reverse.lookup y) := by
    obtain ⟨oL, es, ep, hL, rr⟩ := hns
    exact ⟨oL, es, ep, k₁₄ _ _ hxL hL, rr⟩
  show wpAt _ _ _ (execs _ _) _ _ _
  refine wpAt_of_wpAny (wpAny_execs_cons (plainObj_wpAny_Assign_Attribute ?_))
  refine ESX.ldL hn₄ mf (ESX.ldL hn₄ mself ?_)
  refine set_plain X₄ (ox := excO C t1) (od := none) ⟨hx₄, rfl, rfl, trivial⟩ T.sa ?_
  refine HandSPX.exc_osa X₄ hx₄ hcl (show refsVE (.ref C :: bm) = true from hbm) rfl T.noN (fun h₅ tk₅ dx k₅ dn dne hx₅ hn₅ => ?_)
  show wpAny _ _ (execs _ _) _ _ _
  refine wpAny_execs_nil (hq h₅ tk₅ dx t1 ⟨fun b o hb e => k₅ b o hb (k₁₄ b o hb (k₁ b o e)), hx₅, ?_, dne, hn₅⟩)
  have hL4 := hn₄.lt
  exact Nat.le_of_lt (Nat.lt_of_lt_of_le hL4 dn)
theorem sup_init (T : SupTxt prog K mg X f C fI) (MD : L2.Mod K mg base) {x t0 : Addr} {i : Int} {tk0 : Tok} (kb : ∀ b o, base.get? b = some o → s.heap.get? b = some o) (hlim : s.heap.NoLimit) (hx : s.heap.get? x = some (excO C t0)) (hnx : K.lookup x = none) (hi : i.natAbs.log2 < 1920) (hroom : A.depth < recursionLimit)
    (hq : ∀ h' tk dx t1, InitEnd f s.heap h' x C dx t1 (.int i tk0) → R (.ok (.ret .none)) { s with heap := h', toks := tk }) :
    codeAny (model prog w) A (.call (.ref fI) ⟨[.ref x, .int i tk0], []⟩) R s := by
  rcases T.nm with rfl | rfl
  · exact sup_init_line T MD kb hlim hx hnx hi hroom hq
  · exact sup_init_limit T MD kb hlim hx hnx hi hroom hq
end
end SupE
end PySem

set_option maxHeartbeats 4000000
namespace PySem
namespace SupE
open PySem.W PySem.Calls PyProof.Rows PySem.HandSPX PySem.Spec
/-- a made error -/
structure Made1 (f : Str) (h h' : Heap) (e C d : Addr) (v : Value) : Prop where
  keep : ∀ b o, h.get? b = some o → h'.get? b = some o
  new : h.objs.size ≤ e
  obj : ∃ oe vs, h'.get? e = some oe ∧ oe.cls = .ref C ∧ oe.dict = some d ∧ oe.data = .fields vs ∧ vs[1]? = some .none ∧ vs[2]? = some .none
  dbig : h.objs.size ≤ d
  dne : d ≠ e
  ns : h'.Ns1 d (fun y => if y = f then some v else none)
section
variable {prog : Program} {w : World} {A : Around} {E : Value → Shared → Prop} {R : Result → Shared → Prop} {s : Shared} {K : Frag} {mg : Str → Option Value} {base : Heap} {X f : Str} {C fI : Addr}
theorem sup_made (T : SupTxt prog K mg X f C fI) (MD : L2.Mod K mg base) {i : Int} {tk0 : Tok} (kb : ∀ b o, base.get? b = some o → s.heap.get? b = some o) (hlim : s.heap.NoLimit) (hi : i.natAbs.log2 < 1920) (hroom : A.depth + 1 < recursionLimit)
    (hq : ∀ h' tk e d, Made1 f s.heap h' e C d (.int i tk0) → R (.ok (.ret (.ref e))) { s with heap := h', toks := tk }) :
    codeAny (model prog w) A (.call (.ref C) ⟨[.int i tk0], []⟩) R s := by
  obtain ⟨nm, q, N, bs, bm, sn, sub, ab, col, dd, k0, k1, k2, k3, k5, hC, hbm⟩ := T.cls
  have Xi : K.In s.heap := fun a o e => kb _ _ (MD.kin a o e)
  obtain ⟨hp, g, dr, tk, os⟩ := s
  have k : ∀ b o, hp.get? b = some o → ((hp.push (kdv_tup [.int i tk0])).push (excO C hp.objs.size)).get? b = some o := fun b o e => Heap.get?_push_of_some _ (Heap.get?_push_of_some _ e)
  have hget : ((hp.push (kdv_tup [.int i tk0])).push (excO C hp.objs.size)).get? (hp.objs.size + 1) = some (excO C hp.objs.size) := by heap_get
  have hnx : K.lookup (hp.objs.size + 1) = none := by
    cases e : K.lookup (hp.objs.size + 1) with
    | none => rfl
    | some o =>
      have z : hp.get? (hp.objs.size + 1) = some o := Xi _ _ e
      exact absurd (Nat.lt_of_succ_lt (Heap.lt_size z)) (Nat.lt_irrefl _)
  refine call_own F.excBase_ValueError (fun X => refsVE_contains X bm hbm) (Xi _ _ hC) (looks_findIn Xi T.iC) (fun self => bind_fn Xi self T.tC) (by rw [sizeLine_eq]; show 1 ≤ _; omega) ?_
  refine sup_init (s := ⟨(hp.push (kdv_tup [.int i tk0])).push (excO C hp.objs.size), g, dr, tk, os⟩) T MD (fun b o e => k b o (kb b o e)) (hlim.keeps k) hget hnx hi ?_ fun h' tk' dx t1 ⟨k', hx, dn, dne, hns⟩ => ?_
  · show A.depth + 1 < recursionLimit
    exact hroom
  · have old : ∀ b o, hp.get? b = some o → h'.get? b = some o := fun b o e => k' b o (Nat.ne_of_lt (Nat.lt_succ_of_lt (Heap.lt_size e))) (k b o e)
    have z : hp.objs.size + 1 + 1 ≤ dx := by
      first
        | (simpa only [Heap.size_push] using dn)
        | exact dn
        | (have q := dn; rw [Heap.size_push, Heap.size_push] at q; exact q)
    exact ⟨rfl, hq h' tk' (hp.objs.size + 1) dx ⟨old, Nat.le_succ _, ⟨_, _, hx, rfl, rfl, rfl, rfl, rfl⟩, Nat.le_trans (Nat.le_trans (Nat.le_succ _) (Nat.le_succ _)) z, dne, hns⟩⟩
end
end SupE
end PySem
namespace Ly
open PySem L2 PySem.Spec PyProof.Rows
theorem relO_sup {g : Str} {v : V} {v' : Value} (r : RelV v v') (f : Str) : RelO (List.lookup f [(g, v)]) (if f = g then some v' else none) := by
  by_cases hw : f = g
  · subst hw
    rw [if_pos rfl]
    have q : List.lookup f [(f, v)] = some v := by simp [List.lookup]
    rw [q]
    exact r
  · rw [if_neg hw]
    have qw : (f == g) = false := by simpa using hw
    have q2 : List.lookup f [(g, v)] = none := by simp [List.lookup, qw]
    rw [q2]
    trivial
section
variable {X : Cx} {x f : Str} {C fI : Addr}
/-- X(e), e an int -/
def tMkSup (f : Str) (C : Addr) (ta : TA) : L2.St → Hp → XK → Prop := fun σ H Q => ta σ H fun vs H1 => ∃ i : Int, vs = [.int i] ∧ i.natAbs.log2 < 1920 ∧ ∀ d, H1 d = none → Q (.ref C) (some d) (upd H1 d (.xd [(f, .int i)]))
theorem pmk_sup {a : Expr} {ta : TA} {p pos : Pos} {k : Nat} (T : PySem.SupE.SupTxt X.prog X.K X.mg x f C fI) (hr : Room k X.A) (ha : PA X [a] ta) (hg : Gl X x) (hdb : (x == ("__debug__" : Str)) = false := by decide)
    (he : starEach (a :: []) X.env = (false, eval a X.env) :: starEach [] X.env := by rfl) (hpl : (backTo pos (starEach [] X.env)).any (·.1) = false := by rfl) :
    L2N.PMk X (.Call (.Name x p) [a] [] pos) (tMkSup f C ta) := by
  intro pins s σ H Q I h
  refine wpAny_Call_Name_kw (ld_glob I hg T.gC ?_ hdb)
  refine PySem.W.callWith_K (h₀ := X.base) I.ok.mod.kin T.kC (thn (ha.run pos pins s σ H _ I h) fun us s1 hh => ?_) he hpl
  obtain ⟨vs, H1, I1, r1, i, ev, hi, q1⟩ := hh
  subst ev
  refine ⟨I1.kIn, ?_⟩
  cases r1 with
  | cons rv rn =>
    rename_i v' us'
    cases rn
    obtain ⟨tk0, rfl⟩ := rv
    show wpAny _ _ (call (.ref C) [.int i tk0]) _ _ _
    have hlim := I1.nolimit
    have kbb := I1.bk
    obtain ⟨hp, g, dr, tk, os⟩ := s1
    refine wpAny_call (PySem.SupE.sup_made T I1.ok.mod kbb hlim hi (by have := hr.dp; omega) fun h' tk' e d M => ?_)
    show L2N.MkP X pins σ Q (.ref e) ⟨h', g, dr, tk', os⟩
    obtain ⟨oe, fv, hoe, hc, hd, hdat, h1, h2⟩ := M.obj
    have hns := M.ns
    obtain ⟨G', g1, g2⟩ := restrict h' fun b => decide (b ≠ e)
    have gk : ∀ b, b ≠ e → G'.get? b = h'.get? b := fun b hb => g1 b (decide_eq_true hb)
    have ge : G'.get? e = none := g2 e (by simp)
    have old : ∀ b o, hp.get? b = some o → G'.get? b = some o := fun b o q => (gk b (Nat.ne_of_lt (Nat.lt_of_lt_of_le (Heap.lt_size q) M.new))).trans (M.keep b o q)
    have rvv : RelV (.int i) (.int i tk0) := ⟨tk0, rfl⟩
    have ob : ObjOk X.prog X.w (upd H1 d (.xd [(f, V.int i)])) G' d (.xd [(f, V.int i)]) :=
      ⟨_, hns.at (fun o q => (gk d M.dne).trans q), fun y => relO_sup rvv y⟩
    have J : Inv X pins σ (upd H1 d (.xd [(f, V.int i)])) ⟨G', g, dr, tk', os⟩ := I1.laid (t' := tk') old M.dbig ob
    refine ⟨e, oe, fv, ⟨G', g, dr, tk', os⟩, _, .ref C, some d, rfl, J, fun b o q => ?_, ge, hoe, ⟨hc, hd, fun vs2 e2 => by rw [Data.fields.inj (e2.symm.trans hdat)]; exact h2⟩, hdat, h1, ?_, rfl, I1.bare, raises_own T.exC T.tyC, q1 d (I1.hok.fresh M.dbig)⟩
    · by_cases hb : b = e
      · have q' : G'.get? b = some o := q
        rw [hb, ge] at q'; cases q'
      · exact (gk b hb).symm.trans q
    · rw [upd_ne (Ne.symm M.dne)]
      exact I1.hok.fresh M.new
/-- raise X(e) -/
def tRaiseSup (f : Str) (C : Addr) (W : WX) (ta : TA) : TS := fun _ σ H => tMkSup f C ta σ H fun cls d H' => W cls d σ H'
theorem ps_raiseSup {a : Expr} {ta : TA} {W : WX} {p pos pos2 : Pos} {k : Nat} (hc : X.calm = true) (T : PySem.SupE.SupTxt X.prog X.K X.mg x f C fI) (hr : Room k X.A) (tk : L2N.Takes X W) (ha : PA X [a] ta) (hg : Gl X x) (hdb : (x == ("__debug__" : Str)) = false := by decide)
    (he : starEach (a :: []) X.env = (false, eval a X.env) :: starEach [] X.env := by rfl) (hpl : (backTo pos (starEach [] X.env)).any (·.1) = false := by rfl) :
    PS X (.Raise (some (.Call (.Name x p) [a] [] pos)) none pos2) (tRaiseSup f C W ta) := L2N.ps_raise hc tk (pmk_sup T hr ha hg hdb he hpl)
end
/-- as the hand layer's rule for defs that may raise, with errors whose context is None -/
theorem okN {P : Program} {w : World} {K : PySem.W.Frag} {mg : Str → Option Value} {base : Heap} {x qual : Str} {st : Stmt} {f : Addr} {fd : FuncData} {N ps : List Str} {k : Nat} {sp : Sp} (F : Fun K x qual st f fd) (S : FnScope N ps (defScope st)) (len : ∀ vs H Q E, sp vs H Q E → vs.length = ps.length)
    (hbody : ∀ (cdv : Value) (A : Around) (outer : List PySem.Env) (s : Shared) (H : Hp) (vs : List V) (Q : VK) (E : XK), Room k (A.deeper (envOfC qual (defScope st) s.heap.objs.size f cdv)) → sp vs H Q E →
      ∃ t, PSs (cxOf (L2N.CX P w) P w K mg base N qual (defScope st) f cdv A outer s H E) (defBody st) t ∧ t { nx := fun _ H' => Q .non H', rt := Q } (L2.start N vs) H) : FnOk P w K mg base (L2N.CX P w) (k + 1) f fd ps sp := by
  obtain ⟨oc, od, kV, doc, pm, an, cdv, ct, osl, rfl, lk, hcd⟩ := F.ex
  exact fn_of lk hcd S len fun A outer s H vs Q E hr h => hbody cdv A outer s H vs Q E hr h
theorem passLN {X : Cx} : Passes (L2N.CX X.prog X.w) X E0 := fun _ _ _ _ _ _ _ h => by
  obtain ⟨_, _, _, _, _, _, _, _, _, _, _, _, z⟩ := h
  exact z.elim
theorem takes0N {X : Cx} : L2N.Takes X (fun _ _ _ _ => False) := fun _ _ x => by
  obtain ⟨_, _, _, _, _, _, _, _, _, _, _, _, _, _, _, _, z⟩ := x
  exact z.elim
/-! ## defs that may raise -/
structure CalX (P : Program) (w : World) (K : PySem.W.Frag) (mg : Str → Option Value) (base : Heap) (k : Nat) (x : Str) (sp : Sp) : Prop where
  ex : ∃ (f : Addr) (fd : FuncData) (ps : List Str), FnOk P w K mg base (L2N.CX P w) k f fd ps sp ∧ mg x = some (.ref f) ∧ PySem.W.keepIn K (.ref f) = true ∧ Binds K fd ps []
structure MetX (P : Program) (w : World) (K : PySem.W.Frag) (mg : Str → Option Value) (base : Heap) (k : Nat) (C : Addr) (m : Str) (sp : Sp) : Prop where
  ex : ∃ (f : Addr) (fd : FuncData) (ps : List Str), Cls K C ∧ Meth K C m f ∧ FnOk P w K mg base (L2N.CX P w) k f fd ps sp ∧ Binds K fd ps []
section
variable {P : Program} {w : World} {K : PySem.W.Frag} {mg : Str → Option Value} {base : Heap}
theorem metx_of {m qual : Str} {C : Addr} {st : Stmt} {N ps : List Str} {k : Nat} {sp : Sp} (c : Cls K C) (M : ∃ f fd, Meth K C m f ∧ Fun K m qual st f fd)
    (hb : ∀ (kV doc pm : Value) (an : Option Addr) (cdv ct : Value) (us : List Value), us.length = ps.length → bindArgs (PySem.W.fnOf m qual (defArgs st) (defBody st) (defScope st) .none kV doc pm an cdv ct) ⟨us, []⟩ = pure (ps.zip us))
    (S : FnScope N ps (defScope st)) (len : ∀ vs H Q E, sp vs H Q E → vs.length = ps.length)
    (hbody : ∀ (f : Addr) (cdv : Value) (A : Around) (outer : List PySem.Env) (s : Shared) (H : Hp) (vs : List V) (Q : VK) (E : XK), Room k (A.deeper (envOfC qual (defScope st) s.heap.objs.size f cdv)) → sp vs H Q E →
      ∃ t, PSs (cxOf (L2N.CX P w) P w K mg base N qual (defScope st) f cdv A outer s H E) (defBody st) t ∧ t { nx := fun _ H' => Q .non H', rt := Q } (L2.start N vs) H) : MetX P w K mg base (k + 1) C m sp := by
  obtain ⟨f, fd, me, F⟩ := M
  exact ⟨⟨f, fd, ps, c, me, okN F S len (hbody f), F.binds hb⟩⟩
end
end Ly

set_option maxHeartbeats 4000000
namespace Ly
open PySem L2 PySem.Spec PyProof.Rows
section
variable {P : Program} {w : World} {K : PySem.W.Frag} {mg : Str → Option Value} {base : Heap}
theorem calx_of {x : Str} {st : Stmt} {N ps : List Str} {k : Nat} {sp : Sp} (D : Df K mg x st)
    (hb : ∀ (kV doc pm : Value) (an : Option Addr) (cdv ct : Value) (us : List Value), us.length = ps.length → bindArgs (PySem.W.fnOf x x (defArgs st) (defBody st) (defScope st) .none kV doc pm an cdv ct) ⟨us, []⟩ = pure (ps.zip us))
    (S : FnScope N ps (defScope st)) (len : ∀ vs H Q E, sp vs H Q E → vs.length = ps.length)
    (hbody : ∀ (f : Addr) (cdv : Value) (A : Around) (outer : List PySem.Env) (s : Shared) (H : Hp) (vs : List V) (Q : VK) (E : XK), Room k (A.deeper (envOfC x (defScope st) s.heap.objs.size f cdv)) → sp vs H Q E →
      ∃ t, PSs (cxOf (L2N.CX P w) P w K mg base N x (defScope st) f cdv A outer s H E) (defBody st) t ∧ t { nx := fun _ H' => Q .non H', rt := Q } (L2.start N vs) H) : CalX P w K mg base (k + 1) x sp := by
  obtain ⟨f, fd, F, hm⟩ := D
  exact ⟨⟨f, fd, ps, okN F S len (hbody f), hm, F.kp, F.binds hb⟩⟩
end
section
variable {X : Cx} {k j : Nat} {C : Addr} {x m : Str} {sp : Sp} {p apos pos : Pos} {e o : Expr} {es : List Expr} {t : TA} {ta : TE} {W : WX} {E : XK}
/-- a call that does not raise here; one whose error passes on; one in a try -/
theorem pe_cX0 (c : CalX X.prog X.w X.K X.mg X.base k x sp) (hr : Room j X.A) (hk : k ≤ j) (hg : Gl X x) (ha : PA X (e :: es) t)
    (hdb : (x == ("__debug__" : Str)) = false := by decide) (he : starEach (e :: es) X.env = (false, eval e X.env) :: starEach es X.env := by rfl) (hpl : (backTo pos (starEach es X.env)).any (·.1) = false := by rfl) :
    PE X (.Call (.Name x p) (e :: es) [] pos) (tCall sp [] E0 t) := by
  obtain ⟨f, fd, ps, F, hm, kp, b⟩ := c.ex
  exact pe_call F (hr.mono hk) hg hm kp b .nil passLN ha hdb he hpl
theorem pe_cXP (c : CalX X.prog X.w X.K X.mg X.base k x sp) (hr : Room j X.A) (hk : k ≤ j) (tk : L2N.Takes X fun cls d _ H => E cls d H) (hg : Gl X x) (ha : PA X (e :: es) t)
    (hdb : (x == ("__debug__" : Str)) = false := by decide) (he : starEach (e :: es) X.env = (false, eval e X.env) :: starEach es X.env := by rfl) (hpl : (backTo pos (starEach es X.env)).any (·.1) = false := by rfl) :
    PE X (.Call (.Name x p) (e :: es) [] pos) (tCall sp [] E t) := by
  obtain ⟨f, fd, ps, F, hm, kp, b⟩ := c.ex
  exact pe_call F (hr.mono hk) hg hm kp b .nil (L2N.passes_call tk fun _ _ _ _ h => h) ha hdb he hpl
theorem pe_cXS {E : L2.St → XK} (c : CalX X.prog X.w X.K X.mg X.base k x sp) (hr : Room j X.A) (hk : k ≤ j) (hx : ∀ σ, PassesAt (L2N.CX X.prog X.w) X σ (E σ)) (hg : Gl X x) (ha : PA X (e :: es) t)
    (hdb : (x == ("__debug__" : Str)) = false := by decide) (he : starEach (e :: es) X.env = (false, eval e X.env) :: starEach es X.env := by rfl) (hpl : (backTo pos (starEach es X.env)).any (·.1) = false := by rfl) :
    PE X (.Call (.Name x p) (e :: es) [] pos) (tCallS sp E t) := by
  obtain ⟨f, fd, ps, F, hm, kp, b⟩ := c.ex
  exact pe_callS F (hr.mono hk) hg hm kp b hx ha hdb he hpl
/-- a method's -/
def tMethSx (C : Addr) (m : Str) (sp : Sp) (E : L2.St → XK) (ta : TE) (t : TA) : TE := fun σ H Q => ta σ H fun x H1 => ∃ a dx fs, x = .ref a ∧ H1 a = some (.ins C dx fs) ∧ fs.lookup m = none ∧
  t σ H1 fun vs H2 => sp (x :: vs) H2 Q (E σ)
theorem pe_mX0 {pl : Sem Bool} (c : MetX X.prog X.w X.K X.mg X.base k C m sp) (hr : Room j X.A) (hk : k ≤ j) (he : PE X o ta) (ha : PA X (e :: es) t)
    (hst : starEach (e :: es) X.env = (false, eval e X.env) :: starEach es X.env := by rfl) (hpl : (backTo pos (starEach es X.env)).any (·.1) = false := by rfl)
    (ht : eval (.Call (.Attribute o m apos) (e :: es) [] pos) X.env = (do
      let ov ← eval o X.env
      standAt apos.atName
      let (f, first) ← holding [ov] (getMethod ov m pl)
      callWith pos f first (backTo pos (starEach (e :: es) X.env)) (backToKw pos (keywordEach [] X.env))) := by rfl) :
    PE X (.Call (.Attribute o m apos) (e :: es) [] pos) (tMeth C m sp [] E0 ta t) := by
  obtain ⟨f, fd, ps, hc, hm, F, b⟩ := c.ex
  exact pe_meth (pl := pl) he hc hm F (hr.mono hk) b .nil passLN ha hst hpl ht
theorem pe_mXP {pl : Sem Bool} (c : MetX X.prog X.w X.K X.mg X.base k C m sp) (hr : Room j X.A) (hk : k ≤ j) (tk : L2N.Takes X fun cls d _ H => E cls d H) (he : PE X o ta) (ha : PA X (e :: es) t)
    (hst : starEach (e :: es) X.env = (false, eval e X.env) :: starEach es X.env := by rfl) (hpl : (backTo pos (starEach es X.env)).any (·.1) = false := by rfl)
    (ht : eval (.Call (.Attribute o m apos) (e :: es) [] pos) X.env = (do
      let ov ← eval o X.env
      standAt apos.atName
      let (f, first) ← holding [ov] (getMethod ov m pl)
      callWith pos f first (backTo pos (starEach (e :: es) X.env)) (backToKw pos (keywordEach [] X.env))) := by rfl) :
    PE X (.Call (.Attribute o m apos) (e :: es) [] pos) (tMeth C m sp [] E ta t) := by
  obtain ⟨f, fd, ps, hc, hm, F, b⟩ := c.ex
  exact pe_meth (pl := pl) he hc hm F (hr.mono hk) b .nil (L2N.passes_call tk fun _ _ _ _ h => h) ha hst hpl ht
theorem pe_mXS {E : L2.St → XK} {pl : Sem Bool} (c : MetX X.prog X.w X.K X.mg X.base k C m sp) (hr : Room j X.A) (hk : k ≤ j) (hx : ∀ σ, PassesAt (L2N.CX X.prog X.w) X σ (E σ)) (he : PE X o ta) (ha : PA X (e :: es) t)
    (hst : starEach (e :: es) X.env = (false, eval e X.env) :: starEach es X.env := by rfl) (hpl : (backTo pos (starEach es X.env)).any (·.1) = false := by rfl)
    (ht : eval (.Call (.Attribute o m apos) (e :: es) [] pos) X.env = (do
      let ov ← eval o X.env
      standAt apos.atName
      let (f, first) ← holding [ov] (getMethod ov m pl)
      callWith pos f first (backTo pos (starEach (e :: es) X.env)) (backToKw pos (keywordEach [] X.env))) := by rfl) :
    PE X (.Call (.Attribute o m apos) (e :: es) [] pos) (tMethSx C m sp E ta t) := by
  obtain ⟨f, fd, ps, hc, hm, F, b⟩ := c.ex
  refine ⟨fun pins s σ H Q I h => ?_⟩
  refine PySem.W.methodCall_KW (pl := pl) (thn (he.run pins s σ H _ I h) fun u s1 ⟨x, H1, I1, rx, a, dx, fs, ex, ea, l, q⟩ => ?_) ht
  subst ex
  obtain rfl : u = Value.ref a := rx
  refine getmeth_ok I1 ea hc hm l ?_
  refine PySem.W.callWith_K (first := [.ref a]) (h₀ := X.base) I1.ok.mod.kin hm.kp (thn (ha.run pos pins s1 σ H1 _ I1 q) fun us s2 ⟨vs, H2, I2, r, q2⟩ => ⟨I2.kIn, ?_⟩) hst hpl
  exact run_fnS (us := .ref a :: us) (vs := .ref a :: vs) F (hr.mono hk) b (hx σ) I2 (.cons rfl r) q2
end
/-! ## promises with errors -/
inductive Out where
  | val (P : Dat → Prop)
  | err (C : Addr) (fs : Option (List (Str × V)))
abbrev XSig := List Dat → Out → Prop
/-- what is wanted of an outcome -/
def OutG (W : Wd) (K : PySem.W.Frag) (G H : Hp) (Q : VK) (E : XK) : Out → Prop
  | .val P => Go W K G H P Q
  | .err C fs => ∀ d G2 H2, Stp W G H G2 H2 → (fs = none → d = none) → (∀ f, fs = some f → ∃ a, d = some a ∧ H2 a = some (.xd f)) → E (.ref C) d H2
def spX (W : Wd) (K : PySem.W.Frag) (A : XSig) : Sp := fun vs H Q E => ∃ G ds o, Ok W G H ∧ Reps K G vs ds ∧ A ds o ∧ OutG W K G H Q E o
theorem spX_len {W : Wd} {K : PySem.W.Frag} {A : XSig} {n : Nat} (h : ∀ ds o, A ds o → ds.length = n) : ∀ vs H Q E, spX W K A vs H Q E → vs.length = n := fun vs H Q E ⟨G, ds, o, _, r, a, _⟩ => r.length.trans (h ds o a)
section
variable {W : Wd} {K : PySem.W.Frag} {Γ : List (Option Dat)} {ta tb tc te tl tv tn : TE} {tt tu : TT} {tA : TA} {P R : Dat → Prop} {d a b : Dat} {G1 G0 H0 G H G2 H2 : Hp} {O : List (Addr × List Dat)} {σ : L2.St} {D : Ends} {tz ts tw : TS} {Q : VK} {E : XK}
theorem OutG.step {o : Out} (s : Stp W G H G2 H2) (h : OutG W K G H Q E o) : OutG W K G2 H2 Q E o := by
  cases o with
  | val P => exact Go.step h s
  | err C fs => exact fun d G3 H3 t h1 h2 => h d G3 H3 (s.trans t) h1 h2
theorem OutG.of0 {o : Out} (k : Ok W G H) (h : OutG W K G H Q E o) : OutG Wd0 K G H Q E o := by
  cases o with
  | val P => exact fun v d G3 H3 t pd rd => h v d G3 H3 (Stp.of0 k t) pd rd
  | err C fs => exact fun d G3 H3 t h1 h2 => h d G3 H3 (Stp.of0 k t) h1 h2
/-- a call that gives a value -/
theorem v_callX {A : XSig} {R : List Dat → Prop} (h : EvA W K tA Γ R) (hs : ∀ ds, R ds → ∃ P', A ds (.val P') ∧ ∀ d, P' d → P d) : Ev W K (tCall (spX Wd0 K A) [] E tA) Γ P := fun σ G H n k Q q =>
  h σ G H n k _ fun vs ds G2 H2 s p r => by
    rw [List.append_nil]
    obtain ⟨P', h1, h2⟩ := hs ds p
    exact ⟨G2, ds, .val P', (s.ok k).pure, r, h1, fun v d G3 H3 t pd rd => q v d G3 H3 (s.trans (Stp.of0 (s.ok k) t)) (h2 d pd) rd⟩
theorem v_callXx {A : XSig} {ds : List Dat} (h : EvAX W K tA Γ ds) (hs : A ds (.val P)) : Ev W K (tCall (spX Wd0 K A) [] E tA) Γ P := v_callX h fun ds' e => ⟨P, by rw [e]; exact hs, fun _ p => p⟩
theorem v_methX {A : XSig} {m : Str} {C : Addr} {fsd : List (Str × Dat)} {R : List Dat → Prop} (h : EvX W K ta Γ (.obj C fsd)) (hm : fsd.lookup m = none) (h2 : EvA W K tA Γ R) (hs : ∀ ds, R ds → ∃ P', A (.obj C fsd :: ds) (.val P') ∧ ∀ d, P' d → P d) : Ev W K (tMeth C m (spX Wd0 K A) [] E ta tA) Γ P := fun σ G H n k Q q =>
  h σ G H n k _ fun v e G2 H2 s ee r => by
    subst ee
    have k2 := s.ok k
    cases r with
    | @obj a C dx vs fs hg fl =>
      refine ⟨a, dx, vs, rfl, k2.ex _ _ hg, fl.none hm, ?_⟩
      refine h2 σ G2 H2 (n.mono s.gg) k2 _ fun ws ds G3 H3 s3 p r3 => ?_
      rw [List.append_nil]
      have s13 := s.trans s3
      obtain ⟨P', h1, h2⟩ := hs ds p
      exact ⟨G3, _, .val P', (s13.ok k).pure, .cons (.obj (s3.gg _ _ hg) (fl.mono s3.gg)) r3, h1, fun v d G4 H4 t pd rd => q v d G4 H4 (s13.trans (Stp.of0 (s13.ok k) t)) (h2 d pd) rd⟩
/-- calls whose outcome is told, from a state -/
theorem x_outX {A : XSig} {ds : List Dat} {o : Out} (h : EvAX W K tA Γ ds) (ha : A ds o) (S : S4 W K G1 G0 H0 Γ O σ G H)
    (kv : ∀ P, o = .val P → ∀ v d G2 H2, S4 W K G1 G0 H0 Γ O σ G2 H2 → P d → Rep K G2 v d → Q v H2)
    (ke : ∀ C fs, o = .err C fs → ∀ d G2 H2, S4 W K G1 G0 H0 Γ O σ G2 H2 → (fs = none → d = none) → (∀ f, fs = some f → ∃ a, d = some a ∧ H2 a = some (.xd f)) → E (.ref C) d H2) :
    tA σ H fun vs H1 => spX Wd0 K A vs H1 Q E := h σ G H S.env S.ok _ fun vs ds' G2 H2 s e r => by
  subst e
  have S2 := S.step s
  refine ⟨G2, ds', o, S2.ok.pure, r, ha, ?_⟩
  cases o with
  | val P => exact fun v d G3 H3 t pd rd => kv P rfl v d G3 H3 (S2.step (Stp.of0 S2.ok t)) pd rd
  | err C fs => exact fun d G3 H3 t h1 h2 => ke C fs rfl d G3 H3 (S2.step (Stp.of0 S2.ok t)) h1 h2
theorem x_callS {A : XSig} {EE : L2.St → XK} {ds : List Dat} {o : Out} (h : EvAX W K tA Γ ds) (ha : A ds o) (S : S4 W K G1 G0 H0 Γ O σ G H)
    (kv : ∀ P, o = .val P → ∀ v d G2 H2, S4 W K G1 G0 H0 Γ O σ G2 H2 → P d → Rep K G2 v d → Q v H2)
    (ke : ∀ C fs, o = .err C fs → ∀ d G2 H2, S4 W K G1 G0 H0 Γ O σ G2 H2 → (fs = none → d = none) → (∀ f, fs = some f → ∃ a, d = some a ∧ H2 a = some (.xd f)) → EE σ (.ref C) d H2) :
    tCallS (spX Wd0 K A) EE tA σ H Q := x_outX (E := EE σ) h ha S kv ke
theorem x_callP {A : XSig} {ds : List Dat} {o : Out} (h : EvAX W K tA Γ ds) (ha : A ds o) (S : S4 W K G1 G0 H0 Γ O σ G H)
    (kv : ∀ P, o = .val P → ∀ v d G2 H2, S4 W K G1 G0 H0 Γ O σ G2 H2 → P d → Rep K G2 v d → Q v H2)
    (ke : ∀ C fs, o = .err C fs → ∀ d G2 H2, S4 W K G1 G0 H0 Γ O σ G2 H2 → (fs = none → d = none) → (∀ f, fs = some f → ∃ a, d = some a ∧ H2 a = some (.xd f)) → E (.ref C) d H2) :
    tCall (spX Wd0 K A) [] E tA σ H Q := h σ G H S.env S.ok _ fun vs ds' G2 H2 s e r => by
  subst e
  rw [List.append_nil]
  have S2 := S.step s
  refine ⟨G2, ds', o, S2.ok.pure, r, ha, ?_⟩
  cases o with
  | val P => exact fun v d G3 H3 t pd rd => kv P rfl v d G3 H3 (S2.step (Stp.of0 S2.ok t)) pd rd
  | err C fs => exact fun d G3 H3 t h1 h2 => ke C fs rfl d G3 H3 (S2.step (Stp.of0 S2.ok t)) h1 h2
theorem x_methS {A : XSig} {EE : L2.St → XK} {m : Str} {C : Addr} {fsd : List (Str × Dat)} {ds : List Dat} {o : Out} (h0 : EvX W K ta Γ (.obj C fsd)) (hm : fsd.lookup m = none) (h : EvAX W K tA Γ ds) (ha : A (.obj C fsd :: ds) o) (S : S4 W K G1 G0 H0 Γ O σ G H)
    (kv : ∀ P, o = .val P → ∀ v d G2 H2, S4 W K G1 G0 H0 Γ O σ G2 H2 → P d → Rep K G2 v d → Q v H2)
    (ke : ∀ C fs, o = .err C fs → ∀ d G2 H2, S4 W K G1 G0 H0 Γ O σ G2 H2 → (fs = none → d = none) → (∀ f, fs = some f → ∃ a, d = some a ∧ H2 a = some (.xd f)) → EE σ (.ref C) d H2) :
    tMethSx C m (spX Wd0 K A) EE ta tA σ H Q := h0 σ G H S.env S.ok _ fun v e G2 H2 s ee r => by
  subst ee
  have S2 := S.step s
  cases r with
  | @obj a C dx vs fs hg fl =>
    refine ⟨a, dx, vs, rfl, S2.ok.ex _ _ hg, fl.none hm, ?_⟩
    refine h σ G2 H2 S2.env S2.ok _ fun ws ds' G3 H3 s3 e r3 => ?_
    subst e
    have S3 := S2.step s3
    refine ⟨G3, _, o, S3.ok.pure, .cons (.obj (s3.gg _ _ hg) (fl.mono s3.gg)) r3, ha, ?_⟩
    cases o with
    | val P => exact fun v d G4 H4 t pd rd => kv P rfl v d G4 H4 (S3.step (Stp.of0 S3.ok t)) pd rd
    | err C2 fs2 => exact fun d G4 H4 t h1 h2 => ke C2 fs2 rfl d G4 H4 (S3.step (Stp.of0 S3.ok t)) h1 h2
/-- raise X(i), the def's own way out -/
theorem g_raiseSup {f : Str} {C : Addr} {i : Int} {WW : WX} (h : EvAX W K tA Γ [.int i]) (hi : i.natAbs.log2 < 1920) (S : S4 W K G1 G0 H0 Γ O σ G H)
    (k : ∀ a G2 H2, S4 W K G1 G0 H0 Γ O σ G2 H2 → H2 a = some (.xd [(f, .int i)]) → WW (.ref C) (some a) σ H2) : tRaiseSup f C WW tA D σ H := h σ G H S.env S.ok _ fun vs ds G2 H2 s e r => by
  subst e
  have S2 := S.step s
  cases r with
  | cons r r0 =>
    cases r0
    cases r
    exact ⟨i, rfl, hi, fun d hd => k d G2 _ (S2.step (Stp.grow S2.ok (Ex.new hd))) upd_same⟩
/-- the field of a caught error -/
theorem x_xf {av dd : Addr} {C : Addr} {f : Str} {n : Int} {i : Nat} (hs : σ[i]? = some (some (.ref av))) (hd : H dd = some (.xd [(f, .int n)])) (k : Q (.int n) H) : tXf av (.ref C) (some dd) C f (tVar i) σ H Q :=
  ⟨.ref av, hs, rfl, rfl, dd, _, .int n, rfl, hd, by simp [List.lookup], k⟩
end
end Ly

set_option maxHeartbeats 4000000
/-! # isinstance of a caught own error that has a dict -/
namespace PySem
namespace SupE
open PySem.W PySem.Spec PySem.Calls PyProof.Rows
section
variable {prog : Program} {w : World} {A : Around} {E : Value → Shared → Prop} {s : Shared} {K : Frag} {x D : Addr} {ox : Obj} {od : Option Obj}
theorem find_datO {C : Addr} {nme : Str} {at' ge : Value} (h1 : (clsIn K C).isSome = true) (h2 : findIn K (.ref C) nme = some (some at')) (h3 : specialIn K at' "__get__" = some (some ge)) (h4 : takesIn K at' = some true) : findObj K C od nme = some (.bind ge at') := by
  obtain ⟨cd, h1⟩ := Option.isSome_iff_exists.mp h1
  unfold findObj
  rw [h1, Option.bind_some, h2, Option.bind_some]
  simp [h3, h4]
theorem class_of_exc {Q : Option Value → Shared → Prop} (X : L2.ExcC K D) (I : K.In s.heap) (J : InstAt s.heap x ox D od) (q : Q (some (.ref D)) { s with toks := s.toks + 1 }) : wpAny (model prog w) A (getAttr? (.ref x) "__class__") Q E s := by
  have hf : findObj K D od "__class__" = some (.bind (.builtin "getset_descriptor.__get__") (.builtin "object.__class__")) := find_datO (by obtain ⟨cd, hc, _⟩ := any_some X.hd; rw [hc]; rfl) X.ha X.hn X.ht
  obtain ⟨hp, gs, dr, tk, os⟩ := s
  have ty := J.type (M := model prog w)
  have a1 := looks_findIn (M := model prog w) I X.hg
  have a2 := looks_findIn (M := model prog w) I X.hk
  have a3 := looks_find (M := model prog w) I J hf
  have isE : Looks (model prog w) hp (isInstance (.ref x) (.type "BaseException")) true := ty.andThen (looks_subIn I X.hs)
  have b0 : (false && onTheHeap (Value.builtin "BaseException.__getattribute__")) = false := rfl
  have b1 : (onTheHeap (Value.ref D) && Value.builtin "BaseException.__getattribute__" == Value.builtin "object.__getattribute__") = false := by
    have e : (Value.builtin "BaseException.__getattribute__" == Value.builtin "object.__getattribute__") = false := by decide +kernel
    rw [e]; rfl
  unfold getAttr? getAttrBy? getAttrBy
  refine wpAny_bind (wpAny_mkText (wpAny_bind (wpAny_attempt (wpAny_holding (wpAny_bind (ty.at (wpAny_bind (a1.at ?_))))))))
  show wpAny _ _ (if (onTheHeap (Value.ref D) && Value.builtin "BaseException.__getattribute__" == Value.builtin "object.__getattribute__") = true then _ else _) _ _ _
  rw [b1, if_neg Bool.false_ne_true]
  unfold getAttrByItsOwn hookBefore
  refine wpAny_bind ?_
  rw [if_pos (show onTheHeap (Value.ref D) = true from rfl)]
  refine a2.at (wpAny_bind (wpAny_attempt (wpAny_holding ?_)))
  unfold callGetattribute
  rw [b0, if_neg Bool.false_ne_true]
  unfold boundAndCalled
  rw [PySem.F.excAttr_ValueError.ga.bind (.ref x)]
  refine wpAny_bind (wpAny_pure ?_)
  show wpAny _ _ (call (.builtin "BaseException.__getattribute__") [.ref x, .str "__class__" tk]) _ _ _
  refine wpAny_call (codeAny_call_builtin PySem.F.excAttr_ValueError.ga.plain PySem.F.entry_bexc_ga ?_)
  refine @check_slot (model prog w) _ _ ⟨hp, gs, dr, tk + 1, os⟩ "BaseException.__getattribute__" "BaseException" "__getattribute__" (.ref x) [.str "__class__" tk] [] _ (by decide +kernel) (by decide +kernel) isE (PySem.F.args_bexc_ga (.ref x) (.str "__class__" tk)) ?_
  unfold Builtin.«object.__getattribute__»
  refine wpAny_bind (wpAny_of_eq (a := ((Value.ref x : Value), [Value.str "__class__" tk])) (by first | rfl | (simp only [slotArgs]; rfl)) ?_)
  refine wpAny_bind (wpAny_pure (wpAny_bind (ty.at (wpAny_bind (a3.at ?_)))))
  show wpAny _ _ (holding [Value.builtin "object.__class__"] (call (.builtin "getset_descriptor.__get__") [.builtin "object.__class__", .ref x, .ref D]) >>= ret) _ _ _
  refine wpAny_bind (wpAny_holding (wpAny_call (class_get (s := ⟨hp, gs, dr, tk + 1, os⟩) (ox := ox) (od := od) I J X.hm ?_)))
  refine wpAny_pure ?_
  show wpAny _ _ (handedOut (.ref D)) _ _ _
  rw [handedOut_of (v := .ref D) rfl]
  first
    | exact wpAny_pure (wpAny_pure q)
    | exact wpAny_pure q
    | exact wpAny_pure (wpAny_bind (wpAny_pure (wpAny_pure q)))
theorem kitx_excO (X : L2.ExcC K D) : KitX K (.ref x) (.ref D) (fun h => InstAt h x ox D od) where
  ty := fun _ _ _ J => J.type
  it := fun _ _ I _ => by
    obtain ⟨c0, hc, _⟩ := any_some X.hd
    unfold clsIn at hc
    split at hc
    · rename_i c1 d1 c2 s1 ho
      intro A2 Q2 E2 s2 kk q
      unfold isType loadHead
      exact wpAny_bind (wpAny_loadPart (kk _ _ (I _ _ ho)) (wpAny_pure q))
    · cases hc
  ne := fun h tp dd its n sl I htp => by
    obtain ⟨c0, hc, _⟩ := any_some X.hd
    refine Bool.eq_false_iff.mpr fun q => ?_
    have e : D = tp := Value.ref.inj (beq_iff_eq.mp q)
    subst e
    unfold clsIn at hc
    split at hc
    · rename_i c1 d1 c2 s1 ho
      have z := (I _ _ ho).symm.trans htp
      cases z
    · cases hc
  ca := fun I J k => class_of_exc X I J k
end
end SupE
end PySem
namespace Ly
open PySem L2 PySem.Spec PyProof.Rows
/-- isinstance(e, c) of a caught error with a dict -/
def rIsE3 (K : PySem.W.Frag) (D a : Addr) (cls : Value) (d : Option Addr) : List V → Hp → VK → Prop := fun xs H Q => ∃ dd fs, cls = .ref D ∧ d = some dd ∧ H dd = some (.xd fs) ∧ rIsE K D a xs H Q
theorem call_isE3 {X : Cx} {a D : Addr} {oe : Obj} {pn : List (Addr × Obj)} {cls : Value} {d : Option Addr} (C : ExcC X.K D) (hz : Zc cls d oe) (hf : ∃ vs, oe.data = .fields vs) : CallR (X.suite a ((a, oe) :: pn)) (.builtin "isinstance") (rIsE3 X.K D a cls d) := by
  intro pins s σ H xs us Q I r ⟨dd, fs, e1, e2, ea, h⟩
  subst e1 e2
  obtain ⟨c, cv, b, rfl, hcv, e, q⟩ := h
  cases r with
  | cons rx rr =>
    cases rr with
    | cons rt rr =>
      cases rr
      cases rx
      have ec := hcv _ rt
      subst ec
      obtain ⟨hget, _⟩ := I.pin (a, oe) (List.mem_append.mpr (.inl List.mem_cons_self))
      obtain ⟨vs, hv⟩ := hf
      obtain ⟨mA, hns, hr⟩ : ObjOk X.prog X.w H s.heap dd (.xd fs) := I.hok dd _ ea
      obtain ⟨od, ho, hl⟩ := lookIn_ns hns
      have J : PySem.W.InstAt s.heap a oe D (some od) := ⟨hget, hz.1, by unfold PySem.W.notCls; rw [hv] <;> rfl, by rw [hz.2]; exact ho⟩
      exact PySem.W.kia_one (PySem.SupE.kitx_excO C) I.kIn J e (fun z => nomatch z) fun tk => ⟨.bl b, H, I.kept (t' := tk) fun _ _ z => z, rfl, q⟩
section
variable {W : Wd} {K : PySem.W.Frag} {Γ : List (Option Dat)} {D a c dd : Addr} {fs : List (Str × V)} {b : Bool} {σ : L2.St} {H : Hp} {Q : VK} {i : Nat}
theorem isE3_run (hk : PySem.W.kitOne K (.ref D) (.ref c) = some b) (hd : H dd = some (.xd fs)) (hs : σ[i]? = some (some (.ref a))) (q : Q (.bl b) H) : tCB (rIsE3 K D a (.ref D) (some dd)) (tCons (tVar i) (tCons (tC (.ref c)) tNil)) σ H Q :=
  ⟨.ref a, hs, dd, fs, rfl, rfl, hd, .ref c, .ref c, b, rfl, fun u r => r, hk, q⟩
end
end Ly

set_option maxHeartbeats 4000000
namespace Ly
open PySem L2 PySem.Spec PyProof.Rows
section
variable {X : Cx}
/-- a text, once or not at all -/
def rMulS : V → V → Hp → VK → Prop := fun x y H Q => ∃ (z : Str) (k : Int), x = .str z ∧ y = .int k ∧ (k = 0 ∨ k = 1) ∧ Q (.str (if k = 0 then Str.empty else z)) H
theorem op_mulS : OpR X (binaryOp .Mult) rMulS := by
  intro pins s σ H x y v u Q I rx ry h
  obtain ⟨z, k, rfl, rfl, hk, q⟩ := h
  obtain ⟨t, rfl⟩ := rx
  obtain ⟨t', rfl⟩ := ry
  rcases hk with rfl | rfl
  · exact P.mul_str_none (by omega) (by omega) ⟨.str Str.empty, H, I.tok _, ⟨_, rfl⟩, q⟩
  · refine P.mul_str (by decide) (fun _ h => by simp at h) (fun _ h => by simp at h) ?_
    rw [if_neg (by omega), if_pos (by simp)]
    exact ⟨.str z, H, I, ⟨_, rfl⟩, q⟩
end
section
variable {W : Wd} {K : PySem.W.Frag} {Γ : List (Option Dat)} {ta tb tc te tl tv tn : TE} {tt tu : TT} {tA : TA} {P R : Dat → Prop} {d a b : Dat} {G1 G0 H0 G H G2 H2 : Hp} {O : List (Addr × List Dat)} {σ : L2.St} {D : Ends} {tz ts tw : TS} {Q : VK} {E : XK}
theorem v_mulS {z : Str} (ha : EvX W K ta Γ (.str z)) (hb : Ev W K tb Γ fun d => ∃ k : Int, d = .int k ∧ (k = 0 ∨ k = 1)) : Ev W K (tOp rMulS ta tb) Γ fun d => d = .str Str.empty ∨ d = .str z := v_op ha hb fun x y ex ⟨k, ey, hk⟩ => by
  subst ex ey
  intro G H x y kk rx ry Q q
  cases rx
  cases ry
  refine ⟨z, k, rfl, rfl, hk, q.here kk (.str _) ?_⟩
  rcases hk with rfl | rfl
  · exact .inl rfl
  · exact .inr rfl
/-- parts of a text -/
def cutN (cs : List Nat) (lo hi : Option Int) : List Nat := (cs.drop (HT.sIx cs.length 0 lo)).take (HT.sIx cs.length cs.length hi - HT.sIx cs.length 0 lo)
theorem v_slS {tl th : TO} {cs : List Nat} {lo hi : Option Int} (h : EvX W K te Γ (.str (tx cs))) (h1 : EvO W K tl Γ (· = lo)) (h2 : EvO W K th Γ (· = hi)) (hz : cs.length ≤ 100000) : EvX W K (tSl rSlS te tl th) Γ (.str (tx (cutN cs lo hi))) := fun σ G H n k Q q =>
  h σ G H n k _ fun v d G2 H2 s e r => by
    subst e
    cases r
    refine h1 σ G2 H2 (n.mono s.gg) (s.ok k) _ fun o G3 H3 s3 e => ?_
    subst e
    have s13 := s.trans s3
    refine h2 σ G3 H3 (n.mono s13.gg) (s13.ok k) _ fun o2 G4 H4 s4 e => ?_
    subst e
    have s14 := s13.trans s4
    refine ⟨tx cs, rfl, by show (tx cs).cps.size ≤ sizeLine; exact sz_of (by simpa using hz), ?_⟩
    have e2 : cutS (tx cs) o o2 = tx (cutN cs o o2) := by
      unfold cutS cutN
      have e3 : (tx cs).length = cs.length := by show (tx cs).cps.size = _; simp
      rw [e3]
    rw [e2]
    exact q (.str (tx (cutN cs o o2))) (.str (tx (cutN cs o o2))) G4 H4 s14 rfl (.str _)
theorem cutN_to (cs : List Nat) (n : Nat) : cutN cs none (some (n : Int)) = cs.take n := by
  unfold cutN
  rw [HT.sIx_none, HT.sIx_nat, List.drop_zero, Nat.sub_zero]
  rcases Nat.le_total n cs.length with h | h
  · rw [Nat.min_eq_left h]
  · rw [Nat.min_eq_right h, List.take_of_length_le (Nat.le_refl _), List.take_of_length_le h]
theorem cutN_from (cs : List Nat) (n : Nat) : cutN cs (some (n : Int)) none = cs.drop n := by
  unfold cutN
  rw [HT.sIx_none, HT.sIx_nat]
  rcases Nat.le_total n cs.length with h | h
  · rw [Nat.min_eq_left h, List.take_of_length_le]
    rw [List.length_drop]
    omega
  · rw [Nat.min_eq_right h, List.drop_of_length_le h, List.drop_of_length_le (Nat.le_refl _)]
    simp
/-- a call whose first argument is popped off an own list -/
theorem x_callPop {A : Sig} {l : Addr} {ds es : List Dat} (ho : EvX W K ta Γ (.adr l)) (S : S4 W K G1 G0 H0 Γ ((l, ds ++ [d]) :: O) σ G H) (h : EvAX W K tA Γ es) (hs : A (d :: es) P)
    (k : ∀ v e G2 H2, S4 W K G1 G0 H0 Γ ((l, ds) :: O) σ G2 H2 → P e → Rep K G2 v e → Q v H2) : tCall (spOf Wd0 K A) [] E (tCons (tBM0 K "list" rPop ta) tA) σ H Q :=
  x_pop ho S fun v G2 H2 S2 r => h σ G2 H2 S2.env S2.ok _ fun vs ds' G3 H3 s e rr => by
    subst e
    rw [List.append_nil]
    have S3 := S2.step s
    exact ⟨G3, d :: ds', P, S3.ok.pure, .cons (r.mono s.gg) rr, hs, fun v e G4 H4 t pd rd => k v e G4 H4 (S3.step (Stp.of0 S3.ok t)) pd rd⟩
/-- xs[-1] = e, xs the own list, which e reads too -/
theorem g_putLast {l : Addr} {ds : List Dat} {i : Nat} {d0 : Dat} (hi : Γ[i]? = some (some (.adr l))) (h : Ev W K te (Γ.set i (some (.lst (ds ++ [d0])))) P) (hp : ∀ d, P d → NL d) (hb : EvX W K tb Γ (.int (-1))) (S : S4 W K G1 G0 H0 Γ ((l, ds ++ [d0]) :: O) σ G H)
    (k : ∀ d G2 H2, P d → S4 W K G1 G0 H0 Γ ((l, ds ++ [d]) :: O) σ G2 H2 → D.nx σ H2) : tAsg te (gSub (tVar i) tb rSetL) D σ H :=
  S.look hi List.mem_cons_self h hp fun v d G2 H2 S2 p r => by
    obtain ⟨v1, e1, e2⟩ := S2.env.at' i _ hi
    have e3 := e2.adr_inv
    subst e3
    refine ⟨.ref l, e1, ?_⟩
    refine hb σ G2 H2 S2.env S2.ok _ fun y e G3 H3 s e3 r3 => ?_
    subst e3
    cases r3
    have S3 := S2.step s
    obtain ⟨xs, h1, h2⟩ := (S3.own l (ds ++ [d0]) List.mem_cons_self).at'
    have hl := h2.length
    rw [List.length_append, List.length_singleton] at hl
    refine ⟨l, xs, -1, ds.length, rfl, rfl, h1, ?_, ?_⟩
    · unfold ixN
      rw [if_neg (by omega), if_pos (by omega)]
      congr 1
      omega
    · have rr := h2.set (r.mono s.gg) ds.length
      rw [List.set_append_right _ _ (Nat.le_refl _), Nat.sub_self] at rr
      exact k d G3 _ p (S3.put rr)
/-- try: y = f(..) except CE as e: a suite; f may raise -/
theorem g_tryCallX {CE : Addr} {A : XSig} {i j : Nat} {tsu : Addr → Value → Option Addr → TS} {Wout : WX} {ds : List Dat} {o : Out} (h : EvAX W K tA Γ ds) (ha : A ds o) (hx : PySem.W.exmOne K (.ref CE) (.ref CE) = some true) (S : S4 W K G1 G0 H0 Γ O σ G H)
    (k1 : ∀ C fs, o = .err C fs → C = CE ∧ ∀ (a : Addr) (dd : Option Addr) (G2 H2 : Hp), S4 W K G1 G0 H0 Γ O σ G2 H2 → (∀ f, fs = some f → ∃ b, dd = some b ∧ H2 b = some (.xd f)) →
      tsu a (.ref CE) dd { nx := fun σ' H' => D.nx (σ'.set i none) H', rt := D.rt, bk := fun σ' H' => D.bk (σ'.set i none) H', ct := fun σ' H' => D.ct (σ'.set i none) H' } (σ.set i (some (.ref a))) H2)
    (k2 : ∀ P, o = .val P → ∀ v d G2 H2, P d → S4 W K G1 G0 H0 (Γ.set j (some d)) O (σ.set j (some v)) G2 H2 → D.nx (σ.set j (some v)) H2) :
    tAsg (tCallS (spX Wd0 K A) (WE (wAs K (.ref CE) i tsu Wout D)) tA) (gName j) D σ H :=
  x_callS (Q := fun x H1 => gName j x σ H1 D.nx) h ha S (fun P e v d G2 H2 S2 pd r => k2 P e v d G2 H2 pd (S2.set r)) fun C fs e d G2 H2 S2 h1 h2 => by
    obtain ⟨e1, k3⟩ := k1 C fs e
    subst e1
    exact ⟨true, hx, fun _ a _ => k3 a d G2 H2 S2 h2, fun z => Bool.noConfusion z⟩
theorem q_tryCallX {CE : Addr} {A : XSig} {i j : Nat} {tsu : Addr → Value → Option Addr → TS} {Wout : WX} {ds : List Dat} {o : Out} (h : EvAX W K tA Γ ds) (ha : A ds o) (hx : PySem.W.exmOne K (.ref CE) (.ref CE) = some true) (S : S4 W K G1 G0 H0 Γ O σ G H)
    (k1 : ∀ C fs, o = .err C fs → C = CE ∧ ∀ (a : Addr) (dd : Option Addr) (G2 H2 : Hp) (D' : Ends), D'.rt = D.rt → S4 W K G1 G0 H0 Γ O σ G2 H2 → (∀ f, fs = some f → ∃ b, dd = some b ∧ H2 b = some (.xd f)) → tsu a (.ref CE) dd D' (σ.set i (some (.ref a))) H2)
    (k2 : ∀ P, o = .val P → ∀ v d G2 H2, P d → S4 W K G1 G0 H0 (Γ.set j (some d)) O (σ.set j (some v)) G2 H2 → tz D (σ.set j (some v)) H2) :
    tSeq (fun D σ H => tAsg (tCallS (spX Wd0 K A) (WE (wAs K (.ref CE) i tsu Wout D)) tA) (gName j) D σ H) tz D σ H :=
  g_tryCallX (D := { D with nx := tz D }) h ha hx S (fun C fs e => ⟨(k1 C fs e).1, fun a dd G2 H2 S2 h2 => (k1 C fs e).2 a dd G2 H2 _ rfl S2 h2⟩) k2
/-- the end of a def that raises what its promise says -/
theorem x_raise {f : Str} {C a : Addr} {i : Int} (q : OutG W K G0 H0 Q E (.err C (some [(f, .int i)]))) (S : S4 W K G1 G0 H0 Γ O σ G H) (hd : H a = some (.xd [(f, .int i)])) : E (.ref C) (some a) H :=
  q (some a) G H S.stp (fun h => nomatch h) fun g e => ⟨a, rfl, by cases e; exact hd⟩
/-- xs == [] -/
theorem v_eqNil {n : Nat} {ds : List Dat} (ha : EvX W K ta Γ (.lst ds)) (hb : EvX W K tb Γ (.lst [])) (pa : Pl n (.lst ds)) (hn : n ≤ 64) (h1 : 1 ≤ n) : EvX W K (tOp (rEqD K) ta tb) Γ (.bl ds.isEmpty) := by
  refine EvX.to (v_eqD ha hb pa ?_ hn) ?_
  · cases n with
    | zero => omega
    | succ n => simp [Pl, Pls]
  · cases ds with
    | nil => rfl
    | cons x xs => rfl
end
end Ly

set_option maxHeartbeats 4000000
namespace Ly
open PySem L2
namespace Tm
/-! # texts of terms: ( 40, ) 41, space 32 -/
def show' : Tm → List Nat
  | lf c => [c]
  | ap l r => show' l ++ (if r.isAp = true then 40 :: show' r ++ [41] else show' r)
/-- an argument as it is written -/
def asg (r : Tm) : List Nat := if r.isAp = true then 40 :: show' r ++ [41] else show' r
theorem show_args : ∀ t : Tm, show' t = t.head :: t.args.reverse.flatMap asg
  | lf c => rfl
  | ap l r => by
    show show' l ++ asg r = l.head :: (r :: l.args).reverse.flatMap asg
    rw [show_args l]
    simp [List.flatMap_append]
theorem show_pos (t : Tm) : 1 ≤ (show' t).length := by
  rw [show_args]
  simp
theorem show_len : ∀ t : Tm, (show' t).length + 2 ≤ 3 * t.size
  | lf c => by simp [show', size]
  | ap l r => by
    have h1 := show_len l
    have h2 := show_len r
    show (show' l ++ (if r.isAp = true then 40 :: show' r ++ [41] else show' r)).length + 2 ≤ 3 * (l.size + r.size)
    split
    · simp only [List.length_append, List.length_cons, List.length_nil]
      omega
    · rw [List.length_append]
      omega
/-- what is left to write, the last one first -/
def left (ws : List Tm) : List Nat := ws.reverse.flatMap show'
theorem left_snoc (ws : List Tm) (t : Tm) : left (ws ++ [t]) = show' t ++ left ws := by simp [left]
theorem left_len (ws : List Tm) : ws.length ≤ (left ws).length := by
  induction ws with
  | nil => simp [left]
  | cons t ws ih =>
    have e : left (t :: ws) = left ws ++ show' t := by simp [left]
    have h := show_pos t
    rw [e, List.length_append, List.length_cons]
    omega
theorem left_asg (ws : List Tm) (a : Tm) : (if a.isAp = true then left (ws ++ [lf 41, a, lf 40]) else left (ws ++ [a])) = asg a ++ left ws := by
  unfold asg
  split
  · simp [left, show']
  · exact left_snoc ws a
/-! ## reading -/
def isL (c : Nat) : Bool := decide (c ∈ [83, 75, 73]) || (decide (97 ≤ c) && decide (c ≤ 122))
def appO : Option Tm → Tm → Tm
  | none, r => r
  | some l, r => ap l r
abbrev Rd := Option Tm × List (Option Tm)
/-- one sign: the term so far, and the ones ahead of the brackets, the last first -/
def rd (c : Nat) (s : Rd) : Option Rd :=
  if c = 40 then some (none, s.1 :: s.2)
  else if c = 41 then (match s.2, s.1 with
    | b :: bs, some t => some (some (appO b t), bs)
    | _, _ => none)
  else if isL c = true then some (some (appO s.1 (lf c)), s.2)
  else if c = 32 then some s else none
def run : List Nat → Rd → Option Rd
  | [], s => some s
  | c :: cs, s => (rd c s).bind (run cs)
def fin : Rd → Option Tm
  | (some t, []) => some t
  | _ => none
def read (cs : List Nat) : Option Tm := (run cs (none, [])).bind fin
theorem run_app : ∀ (cs ds : List Nat) (s : Rd), run (cs ++ ds) s = (run cs s).bind (run ds)
  | [], ds, s => rfl
  | c :: cs, ds, s => by
    show (rd c s).bind (run (cs ++ ds)) = ((rd c s).bind (run cs)).bind (run ds)
    cases rd c s with
    | none => rfl
    | some s2 => exact run_app cs ds s2
theorem run_take {cs : List Nat} {i c : Nat} (h : cs[i]? = some c) (s : Rd) : run (cs.take (i + 1)) s = (run (cs.take i) s).bind (rd c) := by
  rw [List.take_succ, h]
  show run (cs.take i ++ [c]) s = _
  rw [run_app]
  congr 1
  funext s2
  show (rd c s2).bind (run []) = rd c s2
  cases rd c s2 <;> rfl
theorem run_stop {cs : List Nat} {i : Nat} {s : Rd} (h : run (cs.take i) s = none) : run cs s = none := by
  have e := run_app (cs.take i) (cs.drop i) s
  rw [List.take_append_drop] at e
  rw [e, h]
  rfl
/-- a text that reads as the term, from nowhere; behind a term -/
def Free (t : Tm) (cs : List Nat) : Prop := ∀ st, run cs (none, st) = some (some t, st)
def Arg (t : Tm) (cs : List Nat) : Prop := ∀ l st, run cs (l, st) = some (some (appO l t), st)
theorem Arg.free {t : Tm} {cs : List Nat} (h : Arg t cs) : Free t cs := fun st => h none st
theorem arg_lf {c : Nat} (h : isL c = true) : Arg (lf c) [c] := fun l st => by
  have e : rd c (l, st) = some (some (appO l (lf c)), st) := by
    unfold rd
    have h1 : c ≠ 40 := by rintro rfl; simp [isL] at h
    have h2 : c ≠ 41 := by rintro rfl; simp [isL] at h
    rw [if_neg h1, if_neg h2, if_pos h]
  show (rd c (l, st)).bind (run []) = _
  rw [e]
  rfl
theorem Free.br {t : Tm} {cs : List Nat} (h : Free t cs) : Arg t (40 :: cs ++ [41]) := fun l st => by
  show (rd 40 (l, st)).bind (run (cs ++ [41])) = _
  have e : rd 40 (l, st) = some (none, l :: st) := rfl
  rw [e, Option.bind_some, run_app, h (l :: st), Option.bind_some]
  rfl
theorem Free.ap {l r : Tm} {cs ds : List Nat} (h1 : Free l cs) (h2 : Arg r ds) : Free (ap l r) (cs ++ ds) := fun st => by
  rw [run_app, h1 st, Option.bind_some]
  exact h2 (some l) st
theorem Free.sp {t : Tm} {cs : List Nat} (h : Free t cs) : Free t (32 :: cs) := fun st => h st
theorem Arg.sp {t : Tm} {cs : List Nat} (h : Arg t cs) : Arg t (32 :: cs) := fun l st => h l st
theorem Free.read {t : Tm} {cs : List Nat} (h : Free t cs) : read cs = some t := by
  unfold Tm.read
  rw [h []]
  rfl
theorem free_show : ∀ {t : Tm}, (∀ c, c ∈ show' t → isL c = true ∨ c = 40 ∨ c = 41) → t.Lt (((List.range 200).filter isL)) → Free t (show' t)
  | lf c, _, h => (arg_lf (List.mem_filter.mp h).2).free
  | ap l r, hc, h => by
    have h1 := free_show (t := l) (fun c q => hc c (List.mem_append_left _ q)) h.1
    have hr : ∀ c, c ∈ show' r → isL c = true ∨ c = 40 ∨ c = 41 := fun c q => hc c (by
      show c ∈ show' l ++ _
      refine List.mem_append_right _ ?_
      split
      · simp [q]
      · exact q)
    have h2 := free_show (t := r) hr h.2
    show Free (ap l r) (show' l ++ (if r.isAp = true then 40 :: show' r ++ [41] else show' r))
    cases r with
    | lf c => exact h1.ap (arg_lf (List.mem_filter.mp h.2).2)
    | ap a b => exact h1.ap h2.br
/-- the terms that are held -/
def szO : Option Tm → Nat
  | none => 0
  | some t => t.size
def held (s : Rd) : Nat := szO s.1 + (s.2.map szO).sum
def LtO (p : List Nat) (s : Rd) : Prop := (∀ t, s.1 = some t → t.Lt p) ∧ ∀ o ∈ s.2, ∀ t, o = some t → t.Lt p
theorem lt_lf {p : List Nat} {c : Nat} (h : c ∈ p) : (lf c).Lt p := h
theorem size_appO (l : Option Tm) (r : Tm) : (appO l r).size = szO l + r.size := by
  cases l with
  | none => show r.size = 0 + r.size; omega
  | some t => rfl
theorem lt_appO {p : List Nat} {l : Option Tm} {r : Tm} (h1 : ∀ t, l = some t → t.Lt p) (h2 : r.Lt p) : (appO l r).Lt p := by
  cases l with
  | none => exact h2
  | some t => exact ⟨h1 t rfl, h2⟩
theorem rd_held {c : Nat} {s s2 : Rd} (h : rd c s = some s2) : held s2 ≤ held s + if isL c = true then 1 else 0 := by
  unfold rd at h
  split at h
  · cases h
    simp [held, szO]
  · split at h
    · obtain ⟨t, st⟩ := s
      cases st with
      | nil => cases h
      | cons b bs =>
        cases t with
        | none => cases h
        | some t =>
          cases h
          simp only [held, szO, size_appO, List.map_cons, List.sum_cons]
          omega
    · split at h
      · cases h
        rename_i e
        rw [if_pos e]
        simp only [held, szO, size_appO, size]
        omega
      · split at h
        · cases h
          omega
        · cases h
theorem rd_lt {p : List Nat} {c : Nat} {s s2 : Rd} (h : rd c s = some s2) (hc : c ∈ p) (hl : LtO p s) : LtO p s2 := by
  obtain ⟨l1, l2⟩ := hl
  unfold rd at h
  split at h
  · cases h
    refine ⟨fun t e => (nomatch e), fun o ho t e => ?_⟩
    rcases List.mem_cons.mp ho with q | q
    · exact l1 t (q ▸ e)
    · exact l2 o q t e
  · split at h
    · obtain ⟨t, st⟩ := s
      cases st with
      | nil => cases h
      | cons b bs =>
        cases t with
        | none => cases h
        | some t =>
          cases h
          exact ⟨fun u e => Option.some.inj e ▸ (lt_appO (fun w q => l2 b List.mem_cons_self w q) (l1 t rfl)), fun o ho => l2 o (List.mem_cons_of_mem _ ho)⟩
    · split at h
      · cases h
        exact ⟨fun u e => Option.some.inj e ▸ (lt_appO (fun w q => l1 w q) (lt_lf hc)), l2⟩
      · split at h
        · cases h
          exact ⟨l1, l2⟩
        · cases h
/-- the letters of a text -/
def lets (cs : List Nat) : Nat := (cs.filter isL).length
theorem run_held : ∀ {cs : List Nat} {s s2 : Rd}, run cs s = some s2 → held s2 ≤ held s + lets cs
  | [], s, s2, h => by
    cases h
    omega
  | c :: cs, s, s2, h => by
    have h : (rd c s).bind (run cs) = some s2 := h
    cases e : rd c s with
    | none =>
      rw [e] at h
      cases h
    | some s1 =>
      rw [e] at h
      have h1 := rd_held e
      have h2 := run_held (cs := cs) (s := s1) h
      have h3 : lets (c :: cs) = (if isL c = true then 1 else 0) + lets cs := by
        unfold lets
        rw [List.filter_cons]
        split
        · rw [List.length_cons]; omega
        · omega
      omega
theorem run_lt {p : List Nat} : ∀ {cs : List Nat} {s s2 : Rd}, run cs s = some s2 → (∀ c ∈ cs, c ∈ p) → LtO p s → LtO p s2
  | [], s, s2, h, _, hl => by
    cases h
    exact hl
  | c :: cs, s, s2, h, hc, hl => by
    have h : (rd c s).bind (run cs) = some s2 := h
    cases e : rd c s with
    | none =>
      rw [e] at h
      cases h
    | some s1 =>
      rw [e] at h
      exact run_lt (cs := cs) (s := s1) h (fun d hd => hc d (List.mem_cons_of_mem _ hd)) (rd_lt e (hc c List.mem_cons_self) hl)
theorem lets_app (a b : List Nat) : lets (a ++ b) = lets a + lets b := by simp [lets]
theorem run_len : ∀ {cs : List Nat} {s s2 : Rd}, run cs s = some s2 → s2.2.length ≤ s.2.length + cs.length
  | [], s, s2, h => by
    cases h
    simp
  | c :: cs, s, s2, h => by
    have h : (rd c s).bind (run cs) = some s2 := h
    cases e : rd c s with
    | none =>
      rw [e] at h
      cases h
    | some s1 =>
      rw [e] at h
      have h2 := run_len (cs := cs) (s := s1) h
      have h1 : s1.2.length ≤ s.2.length + 1 := by
        unfold rd at e
        split at e
        · cases e
          simp
        · split at e
          · obtain ⟨t, st⟩ := s
            cases st with
            | nil => cases e
            | cons b bs =>
              cases t with
              | none => cases e
              | some t =>
                cases e
                show bs.length ≤ (b :: bs).length + 1
                rw [List.length_cons]
                omega
          · split at e
            · cases e
              show s.2.length ≤ s.2.length + 1
              omega
            · split at e
              · cases e
                omega
              · cases e
      rw [List.length_cons]
      omega
end Tm
end Ly

set_option maxHeartbeats 4000000
namespace Ly
open PySem L2 PySem.Spec PyProof.Rows
theorem sg_dec (c d : Nat) : decide (sg c = sg d) = decide (c = d) := by
  refine decide_eq_decide.mpr ⟨fun h => ?_, fun h => by rw [h]⟩
  simpa using h
theorem strOk_tx {cs : List Nat} (h : ∀ c ∈ cs, c < 1114112) : PyData.strOk (tx cs) = true := by
  show cs.toArray.all (· < 0x110000) = true
  rw [← Array.all_toList]
  simpa using h
theorem tx_app (a b : List Nat) : tx a ++ tx b = tx (a ++ b) := by
  show (⟨a.toArray ++ b.toArray⟩ : Str) = ⟨(a ++ b).toArray⟩
  simp
theorem tx_len (cs : List Nat) : (tx cs).length = cs.length := by
  show (tx cs).cps.size = _
  simp
section
variable {W : Wd} {K : PySem.W.Frag} {Γ : List (Option Dat)} {ta tb tc te tl tv tn : TE} {tt tu : TT} {tA : TA} {P R : Dat → Prop} {d a b : Dat} {G1 G0 H0 G H G2 H2 : Hp} {O : List (Addr × List Dat)} {σ : L2.St} {D : Ends} {tz ts tw : TS} {Q : VK} {E : XK}
theorem v_neS {i j : Str} (ha : EvX W K ta Γ (.str i)) (hb : EvX W K tb Γ (.str j)) : EvX W K (tOp rNe ta tb) Γ (.bl (!decide (i = j))) := by
  have h := v_opx ha hb (rv_ne (W := W) (K := K) (a := .str i) (b := .str j) rfl rfl rfl)
  have e : decide (sd (.str i) = sd (.str j)) = decide (i = j) := by
    show decide (V.str i = V.str j) = decide (i = j)
    exact decide_eq_decide.mpr ⟨V.str.inj, fun z => by rw [z]⟩
  rw [e] at h
  exact h
theorem v_addX {xs ys : List Nat} (ha : EvX W K ta Γ (.str (tx xs))) (hb : EvX W K tb Γ (.str (tx ys))) (hz : xs.length + ys.length ≤ 100000) : EvX W K (tOp (fun x y H Q => ∃ i j, x = .str i ∧ y = .str j ∧ i.length + j.length ≤ sizeLine ∧ Q (.str (i ++ j)) H) ta tb) Γ (.str (tx (xs ++ ys))) :=
  EvX.to (v_addS ha hb (by rw [tx_len, tx_len]; exact hz)) (by rw [tx_app])
theorem q_callPopT {A : Sig} {l : Addr} {ds es us : List Dat} {js : List Nat} {n : Nat} (ho : EvX W K ta Γ (.adr l)) (hn : us.length = n) (hj : js.length = n) (S : S4 W K G1 G0 H0 Γ ((l, ds ++ [d]) :: O) σ G H) (h : EvAX W K tA Γ es) (hs : A (d :: es) (· = .tup us))
    (k : ∀ σ2 G2 H2, S4 W K G1 G0 H0 (setsG Γ js us) ((l, ds) :: O) σ2 G2 H2 → tz D σ2 H2) : tSeq (tAsg (tCall (spOf Wd0 K A) [] E (tCons (tBM0 K "list" rPop ta) tA)) (gTup K n (gNames js))) tz D σ H :=
  x_callPop ho S h hs fun v e G2 H2 S2 pd r => by
    subst pd
    exact t_names r hn hj S2 fun σ2 S3 => k σ2 G2 H2 S3
theorem g_callPop {A : Sig} {l : Addr} {ds es : List Dat} {j : Nat} {u : Dat} (ho : EvX W K ta Γ (.adr l)) (S : S4 W K G1 G0 H0 Γ ((l, ds ++ [d]) :: O) σ G H) (h : EvAX W K tA Γ es) (hs : A (d :: es) (· = u))
    (k : ∀ σ2 G2 H2, S4 W K G1 G0 H0 (Γ.set j (some u)) ((l, ds) :: O) σ2 G2 H2 → D.nx σ2 H2) : tAsg (tCall (spOf Wd0 K A) [] E (tCons (tBM0 K "list" rPop ta) tA)) (gName j) D σ H :=
  x_callPop ho S h hs fun v e G2 H2 S2 pd r => by
    subst pd
    exact k _ G2 H2 (S2.set r)
/-- return of an expression that reads an own list -/
theorem g_retL {l : Addr} {ds : List Dat} {i : Nat} (hi : Γ[i]? = some (some (.adr l))) (hm : (l, ds) ∈ O) (h : Ev W K te (Γ.set i (some (.lst ds))) P) (hp : ∀ d, P d → NL d) (S : S4 W K G1 G0 H0 Γ O σ G H) (q : Go W K G0 H0 P D.rt) : tRet te D σ H :=
  S.look hi hm h hp fun v d G2 H2 S2 p r => q v d G2 H2 S2.stp p r
/-- a, b, c on a text's signs -/
theorem rev_cons_map {α β : Type} (f : α → β) (x : α) (xs : List α) : (x :: xs).reverse.map f = xs.reverse.map f ++ [f x] := by simp
end
theorem nl_optD (o : Option Tm) : NL (optD o) := by
  cases o with
  | none => simp [optD, NL]
  | some t => exact t.nl
theorem optD_app (l : Option Tm) (t : Tm) : (Tm.appO l t).D = match l with | none => t.D | some u => .tup [u.D, t.D] := by cases l <;> rfl
theorem isN_D (t : Tm) : isN t.D = false := by cases t <;> rfl
theorem Tm.size_show : ∀ t : Tm, t.size ≤ (show' t).length
  | .lf c => Nat.le_refl _
  | .ap l r => by
    have h1 := Tm.size_show l
    have h2 := Tm.size_show r
    show l.size + r.size ≤ (show' l ++ (if r.isAp = true then 40 :: show' r ++ [41] else show' r)).length
    split
    · simp only [List.length_append, List.length_cons, List.length_nil]
      omega
    · rw [List.length_append]
      omega
theorem Tm.left_mem {ws : List Tm} {w : Tm} (h : w ∈ ws) : w.size ≤ (left ws).length := by
  induction ws with
  | nil => cases h
  | cons t ws ih =>
    have e : left (t :: ws) = left ws ++ show' t := by simp [left]
    rw [e, List.length_append]
    rcases List.mem_cons.mp h with q | q
    · have := t.size_show
      rw [q]
      omega
    · have := ih q
      omega
end Ly

set_option maxHeartbeats 4000000
/-! # defs that are called within an except suite -/
namespace Ly
open PySem L2 PySem.Spec PyProof.Rows
structure CalH (P : Program) (w : World) (K : PySem.W.Frag) (mg : Str → Option Value) (base : Heap) (k : Nat) (x : Str) (sp : Sp) : Prop where
  ex : ∃ (f : Addr) (fd : FuncData) (ps : List Str), L2H.FnH P w K mg base CX0 k f fd ps sp ∧ mg x = some (.ref f) ∧ PySem.W.keepIn K (.ref f) = true ∧ Binds K fd ps []
section
variable {P : Program} {w : World} {K : PySem.W.Frag} {mg : Str → Option Value} {base : Heap}
theorem calh_of {x : Str} {st : Stmt} {N ps : List Str} {k : Nat} {sp : Sp} (D : Df K mg x st)
    (hb : ∀ (kV doc pm : Value) (an : Option Addr) (cdv ct : Value) (us : List Value), us.length = ps.length → bindArgs (PySem.W.fnOf x x (defArgs st) (defBody st) (defScope st) .none kV doc pm an cdv ct) ⟨us, []⟩ = pure (ps.zip us))
    (S : FnScope N ps (defScope st)) (len : ∀ vs H Q E, sp vs H Q E → vs.length = ps.length)
    (hbody : ∀ (f : Addr) (cdv : Value) (A : Around) (outer : List PySem.Env) (s : Shared) (H : Hp) (vs : List V) (Q : VK) (E : XK) (p : Addr × Obj), L2H.RoomH k (A.deeper (envOfC x (defScope st) s.heap.objs.size f cdv)) → sp vs H Q E →
      ∃ t, PSs (L2H.cxH CX0 P w K mg base N x (defScope st) f cdv A outer s H E p) (defBody st) t ∧ t { nx := fun _ H' => Q .non H', rt := Q } (L2.start N vs) H) : CalH P w K mg base (k + 1) x sp := by
  obtain ⟨f, fd, F, hm⟩ := D
  have b := F.binds hb
  obtain ⟨oc, od, kV, doc, pm, an, cdv, ct, osl, rfl, lk, hcd⟩ := F.ex
  exact ⟨⟨f, _, ps, L2H.fn_ofH lk hcd S len fun A outer s H vs Q E p _ hr h => hbody f cdv A outer s H vs Q E p hr h, hm, F.kp, b⟩⟩
end
section
variable {X : Cx} {k j : Nat} {x : Str} {sp : Sp} {p pos : Pos} {e : Expr} {es : List Expr} {t : TA}
theorem pe_cH (c : CalH X.prog X.w X.K X.mg X.base k x sp) (hr : L2H.RoomH j X.A) (hk : k ≤ j) (hc : L2H.HotC X) (hg : Gl X x) (ha : PA X (e :: es) t)
    (hdb : (x == ("__debug__" : Str)) = false := by decide) (he : starEach (e :: es) X.env = (false, eval e X.env) :: starEach es X.env := by rfl) (hpl : (backTo pos (starEach es X.env)).any (·.1) = false := by rfl) :
    PE X (.Call (.Name x p) (e :: es) [] pos) (tCallS sp (fun _ => E0) t) := by
  obtain ⟨f, fd, ps, F, hm, kp, b⟩ := c.ex
  exact L2H.pe_callH F (hr.mono hk) hc hg hm kp b (fun _ => fun _ _ _ _ _ _ h => h.elim) ha hdb he hpl
theorem roomH_suite {X : Cx} {a : Addr} {pn : List (Addr × Obj)} {j : Nat} (hr : Room j X.A) : L2H.RoomH j (X.suite a pn).A := ⟨hr.dp, hr.un⟩
theorem hotc_of {X : Cx} {a : Addr} {oe : Obj} {cls : Value} {d : Option Addr} {pn : List (Addr × Obj)} (hz : L2N.Zn cls d oe) (hf : ∃ vs, oe.data = .fields vs) : L2H.HotC (X.suite a ((a, oe) :: pn)) := by
  obtain ⟨vs, e⟩ := hf
  exact ⟨(a, oe), ⟨rfl, vs, e, hz.2.2 vs e⟩, List.mem_cons_self⟩
end
end Ly

set_option maxHeartbeats 4000000
namespace Ly
open PySem L2 PySem.Spec PyProof.Rows
section
variable {X : Cx}
/-- xs.count(y), of data -/
def rCntD (K : PySem.W.Frag) : V → List V → Hp → VK → Prop := fun x xs H Q => ∃ (p : Addr) (ys : List V) (y : V) (ds : List PyData) (d : PyData), x = .ref p ∧ xs = [y] ∧ SqL K H p ys ∧ DpAll K H ys ds ∧ Dp K H y d ∧ PyData.plainAll ds = true ∧ d.plain = true ∧ d.depth ≤ 64 ∧ Q (.int ((ds.countP fun e => PyData.eqv e d : Nat) : Int)) H
theorem mt_countD (hu : X.A.units + 80 < cLine) : MtR X "list.count" (rCntD X.K) := by
  intro pins s σ H x xs v us Q I rx rxs h
  obtain ⟨p, ys, y, ds, d, rfl, rfl, hs, h1, h2, h3, h4, h5, q⟩ := h
  cases rx
  obtain ⟨u, rfl, ru⟩ := rxs.one
  obtain ⟨its, rv, ⟨o, n, ho, hc, hdn, hd⟩, hlen⟩ := I.list hs
  obtain ⟨as, r1⟩ := Dp.readsAll I ds ys its h1 rv
  obtain ⟨bs, r2⟩ := Dp.reads I d y u h2 ru
  exact SeqAt.count_list_data (vs := its.toArray) ⟨o, ho, hc, n, hd⟩ r1 r2 h3 h4 (by have := Nat.min_le_right (PyData.depthAll ds) d.depth; omega) ⟨.int _, H, I.tok _, ⟨_, rfl⟩, q⟩
end
theorem toPys_map : ∀ ds : List Dat, toPys ds = ds.map toPy
  | [] => rfl
  | d :: ds => by
    rw [toPys, toPys_map ds, List.map_cons]
section
variable {W : Wd} {K : PySem.W.Frag} {Γ : List (Option Dat)} {ta tb : TE} {d : Dat}
theorem v_countD {ds : List Dat} {n m : Nat} (ha : EvX W K ta Γ (.lst ds)) (hb : EvX W K tb Γ d) (h1 : Pls n ds) (h2 : Pl m d) (hm : m ≤ 64) : EvX W K (tBM K "list" (rCntD K) ta (tCons tb tNil)) Γ (.int ((ds.countP fun e => PyData.eqv (toPy e) (toPy d) : Nat) : Int)) := fun σ G H env k Q q =>
  ha σ G H env k _ fun v e G2 H2 s ee r => by
    subst ee
    obtain ⟨a, xs, rfl, hs, r⟩ := r.lst_inv
    have k2 := s.ok k
    refine ⟨.inl ⟨rfl, xs, ex_l k2.ex hs⟩, ?_⟩
    refine hb σ G2 H2 (env.mono s.gg) k2 _ fun y dy G3 H3 s3 ey ry => ?_
    subst ey
    have s13 := s.trans s3
    have k3 := s13.ok k
    refine ⟨a, xs, y, toPys ds, toPy dy, rfl, rfl, ex_l (s3.gg.trans k3.ex) hs, Reps.dp k3.ex n h1 (r.mono s3.gg), Rep.dp k3.ex m h2 ry, PyData.plainAll_of_canLay0 _ (h1.lay), PyData.plain_of_canLay0 _ h2.lay, Nat.le_trans h2.depth hm, ?_⟩
    have e : (toPys ds).countP (fun e => PyData.eqv e (toPy dy)) = ds.countP fun e => PyData.eqv (toPy e) (toPy dy) := by
      rw [toPys_map, List.countP_map]
      rfl
    rw [e]
    exact q _ _ G3 H3 s13 rfl (.int _)
end
end Ly

set_option maxHeartbeats 4000000
namespace Ly
open PySem L2
namespace Tm
/-! # all parts of a term, abstraction, putting -/
/-- each part behind its own parts -/
def post : Tm → List Tm
  | lf c => [lf c]
  | ap l r => l.post ++ r.post ++ [ap l r]
/-- the part that a stack gives first -/
def pre : Tm → List Tm
  | lf c => [lf c]
  | ap l r => ap l r :: (r.pre ++ l.pre)
theorem pre_rev : ∀ t : Tm, t.pre.reverse = t.post
  | lf c => rfl
  | ap l r => by
    show (ap l r :: (r.pre ++ l.pre)).reverse = l.post ++ r.post ++ [ap l r]
    rw [List.reverse_cons, List.reverse_append, pre_rev l, pre_rev r]
theorem post_len : ∀ t : Tm, t.post.length + 1 = 2 * t.size
  | lf c => rfl
  | ap l r => by
    have h1 := post_len l
    have h2 := post_len r
    show (l.post ++ r.post ++ [ap l r]).length + 1 = 2 * (l.size + r.size)
    simp only [List.length_append, List.length_cons, List.length_nil]
    omega
theorem pre_len (t : Tm) : t.pre.length = t.post.length := by rw [← pre_rev, List.length_reverse]
/-- where a pair stands in it, its parts stand ahead -/
theorem post_at : ∀ {t : Tm} {i : Nat} {l r : Tm}, t.post[i]? = some (ap l r) → ∃ a, t.post.take i = a ++ l.post ++ r.post
  | lf c, i, l, r, h => by
    cases i with
    | zero => cases h
    | succ i => cases h
  | ap u v, i, l, r, h => by
    have h : (u.post ++ v.post ++ [ap u v])[i]? = some (ap l r) := h
    show ∃ a, (u.post ++ v.post ++ [ap u v]).take i = a ++ l.post ++ r.post
    rcases Nat.lt_or_ge i u.post.length with z | z
    · rw [List.append_assoc, List.getElem?_append_left z] at h
      obtain ⟨a, e⟩ := post_at (t := u) h
      refine ⟨a, ?_⟩
      rw [List.append_assoc u.post, List.take_append_of_le_length (Nat.le_of_lt z)]
      exact e
    · rcases Nat.lt_or_ge i (u.post ++ v.post).length with y | y
      · rw [List.getElem?_append_left y, List.getElem?_append_right z] at h
        obtain ⟨a, e⟩ := post_at (t := v) h
        refine ⟨u.post ++ a, ?_⟩
        rw [List.take_append_of_le_length (Nat.le_of_lt y), List.take_append, List.take_of_length_le z, e]
        simp
      · rw [List.getElem?_append_right y] at h
        have hi : i - (u.post ++ v.post).length = 0 := by
          rcases Nat.eq_zero_or_pos (i - (u.post ++ v.post).length) with e | e
          · exact e
          · rw [List.getElem?_eq_none (show [ap u v].length ≤ _ from e)] at h
            cases h
        rw [hi] at h
        have h : some (ap u v) = some (ap l r) := h
        cases h
        have e : i = (u.post ++ v.post).length := by omega
        refine ⟨[], ?_⟩
        rw [e, List.take_left']
        · simp
        · rfl
/-! ## what a stack makes of the parts -/
section
variable {α : Type}
/-- f for letters, g for pairs: the stack's top is the list's end -/
def mk (f : Nat → α) (g : Tm → Tm → α → α → α) : Tm → α
  | lf c => f c
  | ap l r => g l r (mk f g l) (mk f g r)
def stk1 (f : Nat → α) (g : Tm → Tm → α → α → α) (s : List α) : Tm → List α
  | lf c => s ++ [f c]
  | ap l r => match s.reverse with
    | y :: x :: q => q.reverse ++ [g l r x y]
    | _ => s
def stk (f : Nat → α) (g : Tm → Tm → α → α → α) (ts : List Tm) : List α := ts.foldl (stk1 f g) []
theorem stk1_ap (f : Nat → α) (g : Tm → Tm → α → α → α) (s : List α) (x y : α) (l r : Tm) : stk1 f g (s ++ [x] ++ [y]) (ap l r) = s ++ [g l r x y] := by
  unfold stk1
  simp
theorem fold_post (f : Nat → α) (g : Tm → Tm → α → α → α) : ∀ (t : Tm) (s : List α), t.post.foldl (stk1 f g) s = s ++ [mk f g t]
  | lf c, s => rfl
  | ap l r, s => by
    show (l.post ++ r.post ++ [ap l r]).foldl (stk1 f g) s = _
    rw [List.foldl_append, List.foldl_append, fold_post f g l s, fold_post f g r]
    exact stk1_ap f g s _ _ l r
theorem stk_post (f : Nat → α) (g : Tm → Tm → α → α → α) (t : Tm) : stk f g t.post = [mk f g t] := fold_post f g t []
theorem stk_at (f : Nat → α) (g : Tm → Tm → α → α → α) {t : Tm} {i : Nat} {l r : Tm} (h : t.post[i]? = some (ap l r)) : ∃ s, stk f g (t.post.take i) = s ++ [mk f g l] ++ [mk f g r] := by
  obtain ⟨a, e⟩ := post_at h
  refine ⟨a.foldl (stk1 f g) [], ?_⟩
  unfold stk
  rw [e, List.foldl_append, List.foldl_append, fold_post, fold_post]
theorem stk_succ (f : Nat → α) (g : Tm → Tm → α → α → α) {ts : List Tm} {i : Nat} {p : Tm} (h : ts[i]? = some p) : stk f g (ts.take (i + 1)) = stk1 f g (stk f g (ts.take i)) p := by
  unfold stk
  rw [List.take_succ, h]
  simp
theorem stk_len (f : Nat → α) (g : Tm → Tm → α → α → α) : ∀ (ts : List Tm) (s : List α), (ts.foldl (stk1 f g) s).length ≤ s.length + ts.length
  | [], s => Nat.le_refl _
  | t :: ts, s => by
    have h := stk_len f g ts (stk1 f g s t)
    have h2 : (stk1 f g s t).length ≤ s.length + 1 := by
      cases t with
      | lf c => simp [stk1]
      | ap l r =>
        have el : s.reverse.length = s.length := List.length_reverse
        show (match s.reverse with | y :: x :: q => q.reverse ++ [g l r x y] | _ => s).length ≤ s.length + 1
        cases e : s.reverse with
        | nil => exact Nat.le_succ _
        | cons y q =>
          cases q with
          | nil => exact Nat.le_succ _
          | cons x q =>
            rw [e] at el
            simp only [List.length_append, List.length_reverse, List.length_cons, List.length_nil] at el ⊢
            omega
    rw [List.foldl_cons, List.length_cons]
    omega
end
/-- K p, where nothing was made -/
def orK : Option Tm → Tm → Tm
  | none, p => ap (lf 75) p
  | some m, _ => m
/-- none: the letter doesn't stand in it -/
def absF (x c : Nat) : Option Tm := if c = x then some (lf 73) else none
def absG (l r : Tm) (a b : Option Tm) : Option Tm := if a.isNone = true ∧ b.isNone = true then none else some (ap (ap (lf 83) (orK a l)) (orK b r))
def absO (x : Nat) : Tm → Option Tm := mk (absF x) absG
def abs (x : Nat) (t : Tm) : Tm := orK (absO x t) t
def sbtF (x : Nat) (u : Tm) (c : Nat) : Tm := if c = x then u else lf c
def sbtG (_ _ a b : Tm) : Tm := ap a b
def sbt (x : Nat) (u : Tm) : Tm → Tm := mk (sbtF x u) sbtG
def cnt (x : Nat) : Tm → Nat
  | lf c => if c = x then 1 else 0
  | ap l r => l.cnt x + r.cnt x
theorem sbt_size (x : Nat) (u : Tm) : ∀ t : Tm, (sbt x u t).size + t.cnt x = t.size + t.cnt x * u.size
  | lf c => by
    show (if c = x then u else lf c).size + (if c = x then 1 else 0) = 1 + (if c = x then 1 else 0) * u.size
    split <;> simp [size] <;> omega
  | ap l r => by
    have h1 := sbt_size x u l
    have h2 := sbt_size x u r
    show (sbt x u l).size + (sbt x u r).size + (l.cnt x + r.cnt x) = l.size + r.size + (l.cnt x + r.cnt x) * u.size
    rw [Nat.add_mul]
    omega
theorem cnt_size (x : Nat) : ∀ t : Tm, t.cnt x ≤ t.size
  | lf c => by
    show (if c = x then 1 else 0) ≤ 1
    split <;> omega
  | ap l r => by
    have h1 := cnt_size x l
    have h2 := cnt_size x r
    show l.cnt x + r.cnt x ≤ l.size + r.size
    omega
theorem countP_post (p : Tm → Bool) (x : Nat) (h1 : ∀ c, p (lf c) = decide (c = x)) (h2 : ∀ l r, p (ap l r) = false) : ∀ t : Tm, t.post.countP p = t.cnt x
  | lf c => by
    show [lf c].countP p = if c = x then 1 else 0
    rw [List.countP_cons, h1]
    by_cases e : c = x <;> simp [e]
  | ap l r => by
    show (l.post ++ r.post ++ [ap l r]).countP p = l.cnt x + r.cnt x
    rw [List.countP_append, List.countP_append, countP_post p x h1 h2 l, countP_post p x h1 h2 r, List.countP_cons, h2]
    simp
/-- where the letter doesn't stand -/
theorem absO_none {x : Nat} : ∀ {t : Tm}, t.cnt x = 0 → absO x t = none
  | lf c, h => by
    have h : (if c = x then 1 else 0) = 0 := h
    show (if c = x then some (lf 73) else none) = none
    by_cases e : c = x
    · rw [if_pos e] at h
      cases h
    · rw [if_neg e]
  | ap l r, h => by
    have h : l.cnt x + r.cnt x = 0 := h
    have h1 := absO_none (x := x) (t := l) (by omega)
    have h2 := absO_none (x := x) (t := r) (by omega)
    unfold absO at h1 h2 ⊢
    rw [mk, h1, h2]
    rfl
/-- parts that wait: what they give, the last one first -/
def pres (ws : List Tm) : List Tm := ws.reverse.flatMap pre
theorem pres_snoc (ws : List Tm) (t : Tm) : pres (ws ++ [t]) = t.pre ++ pres ws := by simp [pres]
theorem pres_len (ws : List Tm) : ws.length ≤ (pres ws).length := by
  induction ws with
  | nil => simp [pres]
  | cons t ws ih =>
    have e : pres (t :: ws) = pres ws ++ t.pre := by simp [pres]
    have h : 1 ≤ t.pre.length := by cases t <;> simp [pre]
    rw [e, List.length_append, List.length_cons]
    omega
end Tm
end Ly

set_option maxHeartbeats 4000000
namespace Ly
open PySem L2 PySem.Spec PyProof.Rows
theorem units80 {k : Nat} {A : Around} (r : Room k A) : A.units + 80 < cLine := by have := r.un; omega
section
variable {W : Wd} {K : PySem.W.Frag} {Γ : List (Option Dat)} {ta tb tc te tl tv tn : TE} {tt tu : TT} {tA : TA} {P R : Dat → Prop} {d a b e : Dat} {G1 G0 H0 G H G2 H2 : Hp} {O : List (Addr × List Dat)} {σ : L2.St} {D : Ends} {tz ts tw : TS} {Q : VK} {E : XK}
/-- (xs.pop(), y) -/
theorem x_tupPop {l : Addr} {ds : List Dat} (ho : EvX W K ta Γ (.adr l)) (S : S4 W K G1 G0 H0 Γ ((l, ds ++ [d]) :: O) σ G H) (hb : EvX W K tb Γ e) (k : ∀ v G2 H2, S4 W K G1 G0 H0 Γ ((l, ds) :: O) σ G2 H2 → Rep K G2 v (.tup [d, e]) → Q v H2) :
    tTup (tCons (tBM0 K "list" rPop ta) (tCons tb tNil)) σ H Q :=
  x_pop ho S fun v G2 H2 S2 r => hb σ G2 H2 S2.env S2.ok _ fun y dy G3 H3 s ey ry => by
    subst ey
    have S3 := S2.step s
    refine ⟨by show 2 ≤ sizeLine; decide, fun p hp => ?_⟩
    have st := Stp.new (W := W) (o := .tup [v, y]) S3.ok hp
    exact k (.ref p) _ _ (S3.step st) (.tup (t_of upd_same) (.cons ((r.mono s.gg).mono st.gg) (.cons (ry.mono st.gg) .nil)))
/-- what a try does with an error that it catches -/
theorem was_hit {CE : Addr} {i : Nat} {tsu : Addr → Value → Option Addr → TS} {Wout : WX} {D0 : Ends} {dd : Option Addr} (hx : PySem.W.exmOne K (.ref CE) (.ref CE) = some true)
    (k : ∀ (a : Addr) (D' : Ends), D'.rt = D0.rt → tsu a (.ref CE) dd D' (σ.set i (some (.ref a))) H) : wAs K (.ref CE) i tsu Wout D0 (.ref CE) dd σ H :=
  ⟨true, hx, fun _ a _ => k a _ rfl, fun z => Bool.noConfusion z⟩
end
end Ly

set_option maxHeartbeats 4000000
namespace Ly
open PySem L2 PySem.Spec PyProof.Rows
section
variable {W : Wd} {K : PySem.W.Frag} {Γ : List (Option Dat)} {ta tb tc te tl tv tn : TE} {tt tu : TT} {tA : TA} {P : Dat → Prop} {d a b e : Dat} {G1 G0 H0 G H G2 H2 : Hp} {O : List (Addr × List Dat)} {σ : L2.St} {D : Ends} {tz ts tw : TS} {Q : VK} {E : XK}
/-- what is to be shown for an outcome -/
structure OutK (W : Wd) (K : PySem.W.Frag) (G1 G0 H0 : Hp) (Γ : List (Option Dat)) (O : List (Addr × List Dat)) (σ : L2.St) (Q : VK) (E : XK) (o : Out) : Prop where
  kv : ∀ P, o = .val P → ∀ v d G2 H2, S4 W K G1 G0 H0 Γ O σ G2 H2 → P d → Rep K G2 v d → Q v H2
  ke : ∀ C fs, o = .err C fs → ∀ d G2 H2, S4 W K G1 G0 H0 Γ O σ G2 H2 → (fs = none → d = none) → (∀ f, fs = some f → ∃ a, d = some a ∧ H2 a = some (.xd f)) → E (.ref C) d H2
/-- a call whose arguments are told by what they are -/
theorem x_callSE {A : XSig} {EE : L2.St → XK} {R : List Dat → Prop} (h : EvA W K tA Γ R) (S : S4 W K G1 G0 H0 Γ O σ G H) (k : ∀ ds, R ds → ∃ o, A ds o ∧ OutK W K G1 G0 H0 Γ O σ Q (EE σ) o) :
    tCallS (spX Wd0 K A) EE tA σ H Q := h σ G H S.env S.ok _ fun vs ds G2 H2 s p r => by
  have S2 := S.step s
  obtain ⟨o, ha, K⟩ := k ds p
  refine ⟨G2, ds, o, S2.ok.pure, r, ha, ?_⟩
  cases o with
  | val P => exact fun v d G3 H3 t pd rd => K.kv P rfl v d G3 H3 (S2.step (Stp.of0 S2.ok t)) pd rd
  | err C fs => exact fun d G3 H3 t h1 h2 => K.ke C fs rfl d G3 H3 (S2.step (Stp.of0 S2.ok t)) h1 h2
theorem x_methSE {A : XSig} {EE : L2.St → XK} {m : Str} {C : Addr} {fsd : List (Str × Dat)} {R : List Dat → Prop} (h0 : EvX W K ta Γ (.obj C fsd)) (hm : fsd.lookup m = none) (h : EvA W K tA Γ R) (S : S4 W K G1 G0 H0 Γ O σ G H)
    (k : ∀ ds, R ds → ∃ o, A (.obj C fsd :: ds) o ∧ OutK W K G1 G0 H0 Γ O σ Q (EE σ) o) : tMethSx C m (spX Wd0 K A) EE ta tA σ H Q := h0 σ G H S.env S.ok _ fun v e G2 H2 s ee r => by
  subst ee
  have S2 := S.step s
  cases r with
  | @obj a C dx vs fs hg fl =>
    refine ⟨a, dx, vs, rfl, S2.ok.ex _ _ hg, fl.none hm, ?_⟩
    refine h σ G2 H2 S2.env S2.ok _ fun ws ds G3 H3 s3 p r3 => ?_
    have S3 := S2.step s3
    obtain ⟨o, ha, K⟩ := k ds p
    refine ⟨G3, _, o, S3.ok.pure, .cons (.obj (s3.gg _ _ hg) (fl.mono s3.gg)) r3, ha, ?_⟩
    cases o with
    | val P => exact fun v d G4 H4 t pd rd => K.kv P rfl v d G4 H4 (S3.step (Stp.of0 S3.ok t)) pd rd
    | err C2 fs2 => exact fun d G4 H4 t h1 h2 => K.ke C2 fs2 rfl d G4 H4 (S3.step (Stp.of0 S3.ok t)) h1 h2
theorem q_tryG2 {ft : TS} (h : ft { D with nx := tz D } σ H) : tSeq ft tz D σ H := h
end
namespace Tm
theorem cnt_Lt {cs : List Nat} {x : Nat} (h : x ∉ cs) : ∀ {t : Tm}, t.Lt cs → t.cnt x = 0
  | lf c, hl => by
    show (if c = x then 1 else 0) = 0
    rw [if_neg]
    rintro rfl
    exact h hl
  | ap l r, hl => by
    show l.cnt x + r.cnt x = 0
    rw [cnt_Lt h hl.1, cnt_Lt h hl.2]
theorem post_mem {cs : List Nat} : ∀ {t : Tm}, t.Lt cs → ∀ p ∈ t.post, p.deep ≤ t.deep ∧ p.Lt cs
  | lf c, h, p, hp => by
    rw [List.mem_singleton.mp hp]
    exact ⟨Nat.le_refl _, h⟩
  | ap l r, h, p, hp => by
    have e : (ap l r).deep = max l.deep r.deep + 1 := rfl
    have hp : p ∈ l.post ++ r.post ++ [ap l r] := hp
    rcases List.mem_append.mp hp with q | q
    · rcases List.mem_append.mp q with q | q
      · have := post_mem h.1 p q
        exact ⟨by omega, this.2⟩
      · have := post_mem h.2 p q
        exact ⟨by omega, this.2⟩
    · rw [List.mem_singleton.mp q]
      exact ⟨Nat.le_refl _, h⟩
end Tm
theorem pls_mem {n : Nat} : ∀ {ds : List Dat}, (∀ d ∈ ds, Pl n d) → Pls n ds
  | [], _ => by simp [Pls]
  | d :: ds, h => by
    rw [Pls]
    exact ⟨h d List.mem_cons_self, pls_mem fun e he => h e (List.mem_cons_of_mem _ he)⟩
theorem pls_post {cs : List Nat} {t : Tm} (h : t.Lt cs) (hs : ∀ c ∈ cs, PyData.strOk (sg c) = true) : Pls t.deep (tmsD t.post) := pls_mem fun d hd => by
  obtain ⟨p, hp, rfl⟩ := List.mem_map.mp hd
  have h2 := Tm.post_mem h p hp
  exact Tm.pl hs h2.2 h2.1
end Ly

set_option maxHeartbeats 4000000
/-! # dict comprehensions with keys of any kind: the storing is a word of its own -/
namespace Ly
open PySem L2 PySem.Spec PyProof.Rows
abbrev Acc := V → V → Addr → Hp → (Hp → Prop) → Prop
/-- the storing: from any context with room -/
def AccD (acc : Acc) : Prop := ∀ (X : Cx) (pins : List (Addr × Obj)) (τ : L2.St) (B : Hp) (t : Shared) (F : Value → Shared → Prop) (D : Addr) (y z : V) (u r : Value) (N : Hp → Prop) (Q : Unit → Shared → Prop),
  X.A.units + 1 < cLine → Inv X pins τ B t → RelV y u → RelV z r → acc y z D B N → (∀ B2 t2, Inv X pins τ B2 t2 → N B2 → Q () t2) → wpAny (model X.prog X.w) X.A (dictSet D u r) Q F t
/-- keys that are tuples -/
def accT : Acc := fun y z D B N => ∃ kvs k b, y = .ref b ∧ B b = some (.tup (k.map kV)) ∧ B D = some (.dT kvs) ∧ kvs.length < sizeLine ∧ N (upd B D (.dT (putK kvs k z)))
theorem accT_ok : AccD accT := by
  intro X pins τ B t F D y z u r N Q hu I ry rz ⟨kvs, k, b, ey, eb, eD, hl, hN⟩ q
  subst ey
  cases (show u = Value.ref b from ry)
  obtain ⟨hz, hd, xs, rel, dd⟩ := dt_of I.hok eD
  have hx : xs.length ≤ sizeLine := by rw [← Paired.length rel]; exact hz
  have hp : (putK kvs k z).length ≤ sizeLine := by have := length_putK kvs k z; omega
  refine wpAny_dictSet_heap (hsz := hx) (Nat.lt_of_succ_lt hu) (key_of I.hok eb) dd fun h2 dd2 sb => q _ _ ?_ hN
  obtain ⟨o, es, ep, h3, h4, h5, h6, _, h7⟩ := dd2
  refine d_write I (by rw [eD]; exact True.intro) sb ⟨o, h3⟩ ⟨hp, hd, _, (rel.put k eb rz).keeps fun c ys ec => ?_, o, es, ep, h3, h4, h5, h6, h7⟩
  rw [upd_ne (ne_of ec eD fun w => nomatch w)]
  exact ec
def tDcG (O0 : HO) (acc : Acc) (wi : TI) (g : TG) (tt : TT) (tk tv : TE) (vs : List Nat) : TE := fun σ H Q => wi σ H fun it H1 => ∀ D, H1 D = none → ∃ J : Nat → Nat → Hp → Prop, (∃ m, J 0 m (upd H1 D O0)) ∧ ∀ i m B, J i m B →
  (it.stop i B ∧ Q (.ref D) B) ∨ (it.go i B ∧ ∃ N : Hp → Prop, (∀ B2, N B2 → ∃ k, k < m ∧ J (i + 1) k B2) ∧ ∀ x B2, it.yld i B x B2 → g x (wipe σ vs) B2 fun τ B3 => wipe τ vs = wipe σ vs ∧ tt τ B3 fun c B4 =>
    if c = true then tk τ B4 fun y B5 => tv τ B5 fun z B6 => acc y z D B6 N else N B4)
section
variable {X : Cx} {acc : Acc} {O0 : HO}
theorem dcg_core {pins : List (Addr × Obj)} {s : Shared} {σ : L2.St} {H : Hp} {Q : VK} {kx vx tg src : Expr} {tests : List Expr} {scope : Scope} {own : List (Str × Nat)} {pos pos2 : Pos} {wi : TI} {g : TG} {tt : TT} {tk tv : TE} {use : Option (Value → Sem Unit)} {Qf : Value → Shared → Prop}
    (hacc : AccD acc) (hnew : ∀ (B : Hp) (h : Heap), sysModules < h.objs.size → ObjOk X.prog X.w B (h.push { cls := .type "dict", data := .dict #[] }) h.objs.size O0) (hu : X.A.units + 1 < cLine)
    (hc : X.calm = true) (hN : X.N.Nodup) (I : Inv X pins σ H s) (hi : PI X tg src wi) (ok : BlkOk X.N X.env.scope scope own)
    (hg : ∀ (s : Shared) (H : Hp) (C : Addr) (cl : List (Str × Addr)) (fp : List Addr), PG (X.blk s H scope (compEnvC scope cl C X.env) fp) tg g) (ht : ∀ (s : Shared) (H : Hp) (C : Addr) (cl : List (Str × Addr)) (fp : List Addr), PTs (X.blk s H scope (compEnvC scope cl C X.env) fp) tests tt)
    (hk : ∀ (s : Shared) (H : Hp) (C : Addr) (cl : List (Str × Addr)) (fp : List Addr), PE (X.blk s H scope (compEnvC scope cl C X.env) fp) kx tk)
    (hv : ∀ (s : Shared) (H : Hp) (C : Addr) (cl : List (Str × Addr)) (fp : List Addr), PE (X.blk s H scope (compEnvC scope cl C X.env) fp) vx tv) (hs : ∀ x, foldedSetIterable src X.env x = pure x)
    (h : tDcG O0 acc wi g tt tk tv (own.map (·.2)) σ H Q)
    (out : ∀ D C s2 m B, Inv X pins σ B s2 → Q (.ref D) B → s2.heap.Ns C m → FpOk X pins B C → compPost (model X.prog X.w) X.A X.xe use Qf (.ref D) C (.ok .next) s2) :
    wpAny (model X.prog X.w) X.A (comprehension (.DictComp kx vx [⟨tg, src, tests, 0⟩] scope pos) scope X.env pos2 newDict false (eval src X.env) use) Qf X.xe s := by
  have free : ∀ y ∈ scope.names, y.2 = .free → ∃ c, X.env.cells.lookup y.1 = some c := fun y hy e => (ok.free y hy e).elim (fun z => I.ok.has _ (.inl z)) fun z => I.ok.has _ (.inr z)
  refine wpAny_comprehension_free (use := use) rfl hs (closure_ok free) ok.kind (fun y hy e => by rw [ok.uniq y hy, e])
    (thn (hi.run pins s σ H _ I h) fun xv sA hA => thn hA fun iv sB hB => ?_)
  obtain ⟨it, fp, tn, J0, HB, e, IB, T, stB, fB, q⟩ := hB
  subst e
  refine wpAny_newObj_type (newEnv_comp ?_)
  generalize eD : sB.heap.objs.size = D
  have freshD : HB D = none := IB.hok.fresh (Nat.le_of_eq eD)
  obtain ⟨J, ⟨m0, start⟩, turn⟩ := q D freshD
  generalize eC : ({ sB with heap := sB.heap.push { cls := .type "dict", data := .dict #[] } } : Shared) = sC
  have hpC : sC.heap = sB.heap.push { cls := .type "dict", data := .dict #[] } := by rw [← eC]
  have IC : Inv X pins σ (upd HB D O0) sC := by
    rw [← eC]
    refine IB.laid (t' := sB.toks) (fun b o z => Heap.get?_push_of_some _ z) (Nat.le_of_eq eD) ?_
    rw [← eD]
    exact hnew _ sB.heap IB.big
  have lts : ∀ b ∈ fp, b < sB.heap.objs.size := fun b hb => Heap.lt_size (T.obj _ _ stB b hb).choose_spec.1
  have fC : ∀ b ∈ fp, FpOk X pins (upd HB D O0) b ∧ b < sC.heap.objs.size := fun b hb => by
    have lt := lts b hb
    refine ⟨⟨by rw [upd_ne (by rw [← eD]; exact Nat.ne_of_lt lt)]; exact (fB b hb).1, (fB b hb).2⟩, ?_⟩
    rw [hpC, Heap.size_push]
    exact Nat.lt_succ_of_lt lt
  have stC : tn 0 sC.heap := T.keep _ _ _ stB fun b _ o z => by rw [hpC]; exact Heap.get?_push_of_some _ z
  have ID := block_start IC ok hN fC
  generalize eH : upd HB D O0 = HC at IC ID start fC
  have nfp : ∀ b ∈ fp, HC b = none := fun b hb => (fC b hb).1.1
  show codeAny _ _ (.compStart (.DictComp kx vx [⟨tg, src, tests, 0⟩] scope pos) 0 (.ref it) (.ref D) (compEnvC scope (cellsFrom (sC.heap.objs.size + 1) scope.names (cloFrom X.env.cells scope.names [])) sC.heap.objs.size X.env)) (compPost (model X.prog X.w) X.A X.xe use Qf (.ref D) sC.heap.objs.size) { sC with heap := pushCells (sC.heap.push { cls := .type "dict", data := .dict #[] }) scope.names }
  generalize eE : compEnvC scope (cellsFrom (sC.heap.objs.size + 1) scope.names (cloFrom X.env.cells scope.names [])) sC.heap.objs.size X.env = ce at ID ⊢
  have pg : PG (X.blk sC HC scope ce fp) tg g := by rw [← eE]; exact hg ..
  have pt : PTs (X.blk sC HC scope ce fp) tests tt := by rw [← eE]; exact ht ..
  have pk : PE (X.blk sC HC scope ce fp) kx tk := by rw [← eE]; exact hk ..
  have pv : PE (X.blk sC HC scope ce fp) vx tv := by rw [← eE]; exact hv ..
  have locs : ce.locals = sC.heap.objs.size := by rw [← eE]; rfl
  generalize eS : ({ sC with heap := pushCells (sC.heap.push { cls := .type "dict", data := .dict #[] }) scope.names } : Shared) = sD at ID ⊢
  have stD : tn 0 sD.heap := T.keep _ _ _ stC fun b _ o z => by rw [← eS]; exact pushCells_keeps _ _ _ _ (Heap.get?_push_of_some _ z)
  have stay : ∀ {τ : L2.St} {B : Hp} {t : Shared}, Inv (X.blk sC HC scope ce fp) [] τ B t → (∀ b ∈ fp, B b = none) → ∀ b ∈ fp, FpOk (X.blk sC HC scope ce fp) [] B b := fun {τ B t} I2 hn b hb =>
    ⟨hn b hb, (I2.ok.exf b hb).1, I2.ok.exfs b hb, .inl hb, fun x c z => (I2.ok.exf b hb).2 x c z, fun p hp => absurd (show p ∈ ([] : List (Addr × Obj)) ++ [] from hp) (by simp)⟩
  refine codeAny_compStart_dict ?loop (T.self X.A 0 _ _ _ stD ?loop)
  refine compLoop_anyD (fun n t => ∃ i B, Inv (X.blk sC HC scope ce fp) [] (wipe σ (own.map (·.2))) B t ∧ tn i t.heap ∧ (∀ b ∈ fp, B b = none) ∧ J i n B) ?_ m0 ⟨0, HC, ID, stD, nfp, start⟩
  rintro n t ⟨i, B, It, stt, nt, jt⟩
  rcases turn i n B jt with ⟨stop, qq⟩ | ⟨go, N, next, step⟩
  · refine thnF (T.done (X.blk sC HC scope ce fp) rfl rfl rfl hc i [] t _ B (fun _ _ => False) It (stay It nt) stt stop) fun r t2 ⟨er, I2⟩ => ?_
    subst er
    have I3 : Inv X pins σ B t2 := IC.call' (ch := fp) I2.os I2.base I2.hok I2.bare fun b hb => by
      obtain ⟨⟨_, z1, z2, z3, z4, z5⟩, _⟩ := fC b hb
      exact ⟨z3, z1, z4, z5⟩
    obtain ⟨m, hn, _⟩ := I2.loc
    have hn : t2.heap.Ns ce.locals m := hn
    have none1 : B ce.locals = none := I2.free
    rw [locs] at hn none1
    exact out D sC.heap.objs.size t2 m B I3 qq hn (IC.fpOk (Nat.le_refl _) none1)
  · refine thnF (T.item (X.blk sC HC scope ce fp) rfl rfl rfl hc i [] t _ B (fun _ _ => False) It (stay It nt) stt go) fun r t2 ⟨u, er, h2⟩ => ?_
    subst er
    refine thnF h2 fun _ t3 ⟨x, B3, I3, r3, y3, st3, n3⟩ => ?_
    have I4 := I3.pinned (stay I3 n3) (T.obj _ _ st3)
    refine thnF (pg.run _ t3 _ B3 x u _ I4 r3 (step x B3 y3)) fun _ t4 ⟨τ, B4, I5, hw, q5⟩ => ?_
    refine thnF (pt.run _ t4 τ B4 _ I5 q5) fun c t5 ⟨B5, I6, q6⟩ => ?_
    have done : ∀ (B6 : Hp) (t6 : Shared), Inv (X.blk sC HC scope ce fp) ([] ++ pinsAt fp t3.heap) τ B6 t6 → N B6 → ∃ m, m < n ∧ ∃ i B, Inv (X.blk sC HC scope ce fp) [] (wipe σ (own.map (·.2))) B t6 ∧ tn i t6.heap ∧ (∀ b ∈ fp, B b = none) ∧ J i m B := fun B6 t6 I7 hN2 => by
      obtain ⟨m, hm, j7⟩ := next B6 hN2
      have pinned : ∀ b ∈ fp, ∀ o, t3.heap.get? b = some o → t6.heap.get? b = some o ∧ B6 b = none := fun b hb o z => by
        obtain ⟨z1, z2, _⟩ := I7.pin (b, o) (List.mem_append_right _ (List.mem_append_right _ (mem_pinsAt hb z)))
        exact ⟨z1, z2⟩
      refine ⟨m, hm, i + 1, B6, (I7.unpinned (pins := [])).weak (by rw [← hw, wipe_length]) (fun j v z => ?_), T.keep _ _ _ st3 fun b hb o z => (pinned b hb o z).1, fun b hb => ?_, j7⟩
      · rw [← hw] at z
        exact (wipe_some z).1
      · obtain ⟨o, z, _⟩ := T.obj _ _ st3 b hb
        exact (pinned b hb o z).2
    cases c with
    | false =>
      simp only [Bool.false_eq_true, if_false] at q6 ⊢
      exact done _ _ I6 q6
    | true =>
      simp only [if_true] at q6 ⊢
      refine thnF (pk.run _ t5 τ B5 _ I6 q6) fun ku t6 ⟨y, B6, I7, ry, q7⟩ => ?_
      refine thnF (pv.run _ t6 τ B6 _ I7 q7) fun vu t7 ⟨z, B7, I8, rz, q8⟩ => ?_
      exact hacc (X.blk sC HC scope ce fp) _ τ B7 t7 _ D y z ku vu N _ hu I8 ry rz q8 fun B8 t8 I9 hN2 => done B8 t8 I9 hN2
theorem pe_dcG {kx vx tg src : Expr} {tests : List Expr} {scope : Scope} {own : List (Str × Nat)} {pos : Pos} {wi : TI} {g : TG} {tt : TT} {tk tv : TE}
    (hacc : AccD acc) (hnew : ∀ (B : Hp) (h : Heap), sysModules < h.objs.size → ObjOk X.prog X.w B (h.push { cls := .type "dict", data := .dict #[] }) h.objs.size O0) (hu : X.A.units + 1 < cLine)
    (hc : X.calm = true) (hN : X.N.Nodup) (hi : PI X tg src wi) (ok : BlkOk X.N X.env.scope scope own)
    (hg : ∀ (s : Shared) (H : Hp) (C : Addr) (cl : List (Str × Addr)) (fp : List Addr), PG (X.blk s H scope (compEnvC scope cl C X.env) fp) tg g) (ht : ∀ (s : Shared) (H : Hp) (C : Addr) (cl : List (Str × Addr)) (fp : List Addr), PTs (X.blk s H scope (compEnvC scope cl C X.env) fp) tests tt)
    (hk : ∀ (s : Shared) (H : Hp) (C : Addr) (cl : List (Str × Addr)) (fp : List Addr), PE (X.blk s H scope (compEnvC scope cl C X.env) fp) kx tk)
    (hv : ∀ (s : Shared) (H : Hp) (C : Addr) (cl : List (Str × Addr)) (fp : List Addr), PE (X.blk s H scope (compEnvC scope cl C X.env) fp) vx tv) (hs : ∀ x, foldedSetIterable src X.env x = pure x := by intro _; rfl) :
    PE X (.DictComp kx vx [⟨tg, src, tests, 0⟩] scope pos) (tDcG O0 acc wi g tt tk tv (own.map (·.2))) := by
  refine ⟨fun pins s σ H Q I h => ?_⟩
  rw [arm_eval_DictComp]
  refine dcg_core hacc hnew hu hc hN I hi ok hg ht hk hv hs h fun D C t m B I2 q hn f => ⟨m, hn, fun h2 sb => ?_⟩
  obtain ⟨z0, z1, z2, z3, z4, z5⟩ := f
  exact ⟨.ref D, B, I2.turned (t' := t.toks) (fun b o hb e => (sb.2 b hb).trans e) z0 z1 z3 z4 z5, rfl, q⟩
/-- a dict with tuples as keys -/
theorem dt_new {P : Program} {w : World} (B : Hp) (h : Heap) (hb : sysModules < h.objs.size) : ObjOk P w B (h.push { cls := .type "dict", data := .dict #[] }) h.objs.size (.dT []) := dt_empty h hb
end
end Ly

set_option maxHeartbeats 4000000
/-! # dicts with tuples of ints as keys, as data -/
namespace Ly
open PySem L2 PySem.Spec PyProof.Rows
/-- what a dict holds; a store into it -/
def valD (es : List (List Key × Dat)) (k : List Key) : Option Dat := (es.find? fun e => decide (e.1 = k)).map (·.2)
def putD (es : List (List Key × Dat)) (k : List Key) (d : Dat) : List (List Key × Dat) :=
  if (es.any fun e => decide (e.1 = k)) = true then es.map (fun e => if e.1 = k then (e.1, d) else e) else es ++ [(k, d)]
abbrev iK (ns : List Int) : List Key := ns.map Sum.inl
theorem iK_V (ns : List Int) : (iK ns).map kV = ns.map V.int := by
  rw [List.map_map]
  rfl
theorem iK_inj {ns ms : List Int} (h : iK ns = iK ms) : ns = ms := by
  have := congrArg (List.map fun k : Key => match k with | .inl i => i | .inr _ => 0) h
  simpa [List.map_map, Function.comp_def] using this
section
variable {K : PySem.W.Frag} {G : Hp}
theorem Dcts.length : ∀ {vs : List (List Key × V)} {es : List (List Key × Dat)}, Dcts K G vs es → vs.length = es.length
  | _, _, .nil => rfl
  | _, _, .cons _ r => by rw [List.length_cons, List.length_cons, Dcts.length r]
theorem Dcts.any {k : List Key} : ∀ {vs : List (List Key × V)} {es : List (List Key × Dat)}, Dcts K G vs es → (vs.any fun e => decide (e.1 = k)) = es.any fun e => decide (e.1 = k)
  | _, _, .nil => rfl
  | _, _, .cons _ r => by rw [List.any_cons, List.any_cons, Dcts.any r]
theorem Dcts.append {v : V} {d : Dat} {k : List Key} (h : Rep K G v d) : ∀ {vs : List (List Key × V)} {es : List (List Key × Dat)}, Dcts K G vs es → Dcts K G (vs ++ [(k, v)]) (es ++ [(k, d)])
  | _, _, .nil => .cons h .nil
  | _, _, .cons q r => .cons q (Dcts.append h r)
theorem Dcts.repl {v : V} {d : Dat} {k : List Key} (h : Rep K G v d) : ∀ {vs : List (List Key × V)} {es : List (List Key × Dat)}, Dcts K G vs es → Dcts K G (vs.map fun e => if e.1 = k then (e.1, v) else e) (es.map fun e => if e.1 = k then (e.1, d) else e)
  | _, _, .nil => .nil
  | _, _, .cons (k := m) q r => by
    rw [List.map_cons, List.map_cons]
    by_cases e : m = k
    · rw [if_pos e, if_pos e]
      exact .cons h (Dcts.repl h r)
    · rw [if_neg e, if_neg e]
      exact .cons q (Dcts.repl h r)
theorem Dcts.put {v : V} {d : Dat} {k : List Key} (h : Rep K G v d) {vs : List (List Key × V)} {es : List (List Key × Dat)} (r : Dcts K G vs es) : Dcts K G (putK vs k v) (putD es k d) := by
  unfold putK putD
  rw [r.any (k := k)]
  split
  · exact r.repl h
  · exact r.append h
theorem Dcts.val {k : List Key} : ∀ {vs : List (List Key × V)} {es : List (List Key × Dat)}, Dcts K G vs es → (valV vs k = none ∧ valD es k = none) ∨ ∃ v d, valV vs k = some v ∧ valD es k = some d ∧ Rep K G v d
  | _, _, .nil => .inl ⟨rfl, rfl⟩
  | _, _, .cons (k := m) (v := v) (d := d) q r => by
    by_cases e : m = k
    · exact .inr ⟨v, d, by rw [valV_pos e], by simp [valD, List.find?_cons, e], q⟩
    · rw [valV_neg e]
      have e2 : ∀ (es : List (List Key × Dat)), valD ((m, d) :: es) k = valD es k := fun es => by simp [valD, List.find?_cons, e]
      rw [e2]
      exact Dcts.val r
theorem putD_len (es : List (List Key × Dat)) (k : List Key) (d : Dat) : (putD es k d).length ≤ es.length + 1 := by
  unfold putD
  split
  · rw [List.length_map]; omega
  · rw [List.length_append]; simp
end
section
variable {W : Wd} {K : PySem.W.Frag} {Γ : List (Option Dat)} {ta tb tc te tl tv tn : TE} {tt tu : TT} {tA : TA} {P R : Dat → Prop} {d a b : Dat} {G1 G0 H0 G H G2 H2 : Hp} {O : List (Addr × List Dat)} {σ : L2.St} {D : Ends} {tz ts tw : TS}
/-- len of a dict -/
theorem v_lenD {es : List (List Key × Dat)} (h : EvX W K ta Γ (.dct es)) : EvX W K (tCB rLenT (tCons ta tNil)) Γ (.int ((es.length : Nat) : Int)) := v_cbx (a_consx h a_nil) fun G H xs k r Q q => by
  cases r with
  | cons r r0 =>
    cases r0
    cases r with
    | @dct a vs es hg rd => exact ⟨a, vs, rfl, k.ex _ _ hg, q.here k (.int _) (by rw [rd.length])⟩
/-- d.get((i, j)) -/
theorem v_getD {es : List (List Key × Dat)} {ns : List Int} (h : EvX W K ta Γ (.dct es)) (hk : EvAX W K tA Γ (ns.map Dat.int)) (hl : ns.length ≤ 1000) : EvX W K (tDGet1 ta (tTup tA)) Γ ((valD es (iK ns)).getD .non) := fun σ G H env k Q q =>
  h σ G H env k _ fun v e G2 H2 s ee r => by
    subst ee
    have k2 := s.ok k
    cases r with
    | @dct a vs es hg rd =>
      refine ⟨a, rfl, .inr ⟨vs, .inl (k2.ex _ _ hg)⟩, ?_⟩
      refine hk σ G2 H2 (env.mono s.gg) k2 _ fun ws ds G3 H3 s3 e3 r3 => ?_
      subst e3
      have ew := r3.ints
      subst ew
      have s13 := s.trans s3
      have k3 := s13.ok k
      refine ⟨by rw [List.length_map]; exact sz_of (by omega), fun p hp => ?_⟩
      have st := Stp.new (W := W) (o := .tup (ns.map V.int)) k3 hp
      have s14 := s13.trans st
      have hg4 : upd H3 p (.tup (ns.map V.int)) a = some (.dT vs) := by
        rw [upd_ne (ne_of_none (k3.ex _ _ (s3.gg _ _ hg)) hp)]
        exact k3.ex _ _ (s3.gg _ _ hg)
      refine ⟨valV vs (iK ns), DGet.t hg4 (by rw [iK_V]; exact upd_same), ?_⟩
      rcases rd.val (k := iK ns) with ⟨z1, z2⟩ | ⟨v, d, z1, z2, z3⟩
      · rw [z1]
        exact q .non .non _ _ s14 (by rw [z2]; rfl) .non
      · rw [z1]
        rw [z2] at q
        exact q v d _ _ s14 rfl ((z3.mono s3.gg).mono st.gg)
/-- {(i, j): v for x in a tuple} -/
theorem v_dcT {j : Nat} {us : List Dat} {kf : Dat → List Int} {vf : Dat → Dat} (h : EvX W K tl Γ (.tup us)) (hz : us.length ≤ 90000)
    (hk : ∀ d ∈ us, EvAX W K tA ((wipeG Γ [j]).set j (some d)) ((kf d).map Dat.int)) (hkl : ∀ d ∈ us, (kf d).length ≤ 1000) (hv : ∀ d ∈ us, EvX W K tv ((wipeG Γ [j]).set j (some d)) (vf d)) :
    EvX W K (tDcG (.dT []) accT (iTup K tl) (gName j) tYes (tTup tA) tv [j]) Γ (.dct (us.foldl (fun es d => putD es (iK (kf d)) (vf d)) [])) := fun σ G H n k Q q =>
  h σ G H n k _ fun v d G2 H2 s e r => by
    subst e
    obtain ⟨a, xs, rfl, hx, r⟩ := r.tup_inv
    have k2 := s.ok k
    have hlen := r.length
    refine ⟨a, rfl, ⟨xs, ex_t k2.ex hx⟩, fun Dl hD => ?_⟩
    have g2D : G2 Dl = none := by
      cases e : G2 Dl with
      | none => rfl
      | some u =>
        rw [k2.ex Dl u e] at hD
        cases hD
    have nm : ¬ W.m Dl := fun z => by
      obtain ⟨o, ho⟩ := W.tr k2.inv z
      rw [ho] at hD
      cases hD
    refine ⟨fun i m B => m = xs.length - i ∧ i ≤ xs.length ∧ ∃ G' vs, Stp W G2 H2 G' B ∧ G' Dl = none ∧ B Dl = some (.dT vs) ∧ vs.length ≤ i ∧ Dcts K G' vs ((us.take i).foldl (fun es d => putD es (iK (kf d)) (vf d)) []), ⟨xs.length, by simp, Nat.zero_le _, G2, [], Stp.grow k2 (Ex.new hD), g2D, upd_same, Nat.le_refl _, .nil⟩, ?_⟩
    rintro i m B ⟨rfl, hi, G', vs, st, gD, bD, hvl, rd⟩
    have k' := st.ok k2
    have hxB : SqT K B a xs := ex_t (st.gg.trans k'.ex) hx
    by_cases hlt : i < xs.length
    · refine .inr ⟨⟨xs, xs[i], hxB, by simp [hlt]⟩, fun B2 => ∃ G' vs, Stp W G2 H2 G' B2 ∧ G' Dl = none ∧ B2 Dl = some (.dT vs) ∧ vs.length ≤ i + 1 ∧ Dcts K G' vs ((us.take (i + 1)).foldl (fun es d => putD es (iK (kf d)) (vf d)) []), fun B2 p => ⟨xs.length - (i + 1), by omega, rfl, hlt, p⟩, fun x B2 y => ?_⟩
      obtain ⟨e, y⟩ := y
      subst e
      obtain ⟨d, hd, rdx⟩ := r.getV (y xs hxB)
      have hm : d ∈ us := List.mem_of_getElem? hd
      refine ⟨wipe1, ?_⟩
      have env := env_turn (j := j) (n.mono (s.gg.trans st.gg)) (rdx.mono st.gg)
      refine hk d hm _ G' B2 env k' _ fun ws ds G3 B3 s3 e3 r3 => ?_
      subst e3
      have ew := r3.ints
      subst ew
      refine ⟨by rw [List.length_map]; exact sz_of (by have := hkl d hm; omega), fun p hp => ?_⟩
      have k3 := s3.ok k'
      have st3 := Stp.new (W := W) (o := .tup ((kf d).map V.int)) k3 hp
      have s4 := s3.trans st3
      refine hv d hm _ _ _ (env.mono s4.gg) (s4.ok k') _ fun z dz G5 B5 s5 ez rz => ?_
      subst ez
      have s6 := s4.trans s5
      have bD5 := s6.hh Dl _ nm bD
      have gD5 : G5 Dl = none := by
        cases e : G5 Dl with
        | none => rfl
        | some u =>
          rcases s6.nw Dl u e with w | w
          · rw [gD] at w
            cases w
          · rw [bD] at w
            cases w
      have bp : B5 p = some (.tup ((iK (kf d)).map kV)) := by
        rw [iK_V]
        exact s5.gh _ _ (s5.gg _ _ upd_same)
      have hvl2 : vs.length < sizeLine := sz_lt (by omega)
      refine ⟨vs, iK (kf d), p, rfl, bp, bD5, hvl2, G5, putK vs (iK (kf d)) z, ?_, gD5, upd_same, ?_, ?_⟩
      · have s7 := st.trans s6
        refine ⟨s7.gg, fun a u e => ?_, fun a u hm e => ?_, s7.nw, W.loc s7.inv fun a ha => upd_ne fun e => nm (e ▸ ha)⟩
        · rw [upd_ne (ne_of_none e gD5)]
          exact s7.gh a u e
        · rw [upd_ne (ne_of_none e hD)]
          exact s7.hh a u hm e
      · have := length_putK vs (iK (kf d)) z
        omega
      · rw [List.take_succ, hd, List.foldl_append]
        exact (rd.mono s6.gg).put rz
    · have e : i = xs.length := by omega
      subst e
      refine .inl ⟨⟨xs, hxB, Nat.le_refl _⟩, ?_⟩
      rw [hlen, List.take_length] at rd
      have s7 := s.trans st
      have hD0 : H Dl = none := (back s hD).1
      refine q (.ref Dl) _ (upd G' Dl (.dT vs)) B ⟨s7.gg.trans (Ex.new gD), fun a u e => ?_, s7.hh, fun a u e => ?_, s7.inv⟩ rfl (.dct upd_same (rd.mono (Ex.new gD)))
      · by_cases z : a = Dl
        · subst z
          rw [upd_same] at e
          cases e
          exact bD
        · rw [upd_ne z] at e
          exact s7.gh a u e
      · by_cases z : a = Dl
        · subst z
          exact .inr hD0
        · rw [upd_ne z] at e
          exact s7.nw a u e
end
end Ly

set_option maxHeartbeats 4000000
/-! # sorted of a list of tuples of ints, also negative ones -/
namespace TS
open PySem PyProof.Rows
/-- tuples of d ints between -M and M -/
def TupsS (h : Heap) (d : Nat) (M : Int) (vs : List Value) : Prop := ∀ v, v ∈ vs → ∃ ns, TupInts h v ns ∧ ns.length = d ∧ ∀ m ∈ ns, -M ≤ m ∧ m ≤ M
theorem TupsS.keeps {h h' : Heap} {d : Nat} {M : Int} {vs : List Value} (x : TupsS h d M vs) (k : ∀ b o, h.get? b = some o → o.cls = .type "tuple" → h'.get? b = some o) : TupsS h' d M vs := fun v hv => by
  obtain ⟨ns, t, r⟩ := x v hv
  exact ⟨ns, t.keeps k, r⟩
def shf (M : Int) (ns : List Int) : List Int := ns.map (· + M)
/-- the rank of a tuple -/
abbrev rkS (M : Int) (ns : List Int) : Int := code (2 * M + 1) (shf M ns)
theorem shf_bd {M : Int} {ns : List Int} (h : ∀ m ∈ ns, -M ≤ m ∧ m ≤ M) : Bd (2 * M + 1) (shf M ns) := fun k hk => by
  obtain ⟨m, hm, e⟩ := List.mem_map.mp hk
  have := h m hm
  omega
section
variable {prog : Program} {w : World} {A : Around} {E : Value → Shared → Prop} {s : Shared}
theorem lexS {Q : Bool → Shared → Prop} {M : Int} {b : Bool} : ∀ {xs ys : List Value} {ns ms : List Int} (i : Nat), IntsAre xs ns → IntsAre ys ms → ns.length = ms.length → (∀ m ∈ ns, -M ≤ m ∧ m ≤ M) → (∀ m ∈ ms, -M ≤ m ∧ m ≤ M) →
    Q (decide (rkS M ns < rkS M ms)) s → PySem.W.KatLex prog w A b false Q (xs.zip ys) i s
  | _, _, _, _, i, .nil, .nil, _, _, _, h => by
    rw [decide_eq_false (Int.lt_irrefl _)] at h
    exact PySem.W.kat_nil h
  | _, _, _, _, _, .nil, .cons _ _ _, hl, _, _, _ => by simp at hl
  | _, _, _, _, _, .cons _ _ _, .nil, hl, _, _, _ => by simp at hl
  | _, _, _, _, i, .cons (ns := ns) p t hx, .cons (ns := ms) q u hy, hl, h1, h2, h => by
    have hl2 : ns.length = ms.length := by simpa using hl
    have b1 : ∀ m ∈ ns, -M ≤ m ∧ m ≤ M := fun m hm => h1 m (List.mem_cons_of_mem _ hm)
    have b2 : ∀ m ∈ ms, -M ≤ m ∧ m ≤ M := fun m hm => h2 m (List.mem_cons_of_mem _ hm)
    have hl3 : (shf M ns).length = (shf M ms).length := by rw [shf, shf, List.length_map, List.length_map, hl2]
    refine PySem.W.kat_cons (wpAny_eqBool_int ?_)
    by_cases e : p = q
    · subst e
      rw [beq_self_eq_true]
      have z : decide (rkS M (p :: ns) < rkS M (p :: ms)) = decide (rkS M ns < rkS M ms) := decide_eq_decide.mpr (code_same hl3)
      rw [z] at h
      exact PySem.W.kat_yes (lexS (i + 1) hx hy hl2 b1 b2 h)
    · rw [beq_eq_false_iff_ne.mpr e]
      refine PySem.W.kat_no (oneLt_ints _ ?_)
      have z : decide (rkS M (p :: ns) < rkS M (q :: ms)) = decide (p < q) := by
        refine decide_eq_decide.mpr ⟨fun x => ?_, fun x => code_lt (d := p + M) (e := q + M) hl3 (shf_bd b1) (shf_bd b2) (by omega)⟩
        rcases Int.lt_or_lt_of_ne e with y | y
        · exact y
        · have c := code_lt (d := q + M) (e := p + M) hl3.symm (shf_bd b2) (shf_bd b1) (by omega)
          exact absurd x (Int.not_lt.mpr (Int.le_of_lt c))
      rw [z] at h
      exact h
theorem firstsS {h : Heap} {d : Nat} {M : Int} (hd : 1 ≤ d) : ∀ vs : List Value, TupsS h d M vs → ∃ fs, PySem.W.KatTups h vs fs ∧ fs.length = vs.length ∧ ∀ f, f ∈ fs → ∃ n t, f = Value.int n t
  | [], _ => ⟨[], PySem.W.KatTups.nil, rfl, fun f hf => absurd hf List.not_mem_nil⟩
  | v :: vs, x => by
    obtain ⟨fs, k, hl, hi⟩ := firstsS hd vs fun u hu => x u (List.mem_cons_of_mem _ hu)
    obtain ⟨ns, ⟨a, xs, rfl, ⟨o, ho, hc, n, hdt⟩, i⟩, hn, _⟩ := x v List.mem_cons_self
    have hlen := i.length
    cases q : xs.toList with
    | nil =>
      rw [q, List.length_nil] at hlen
      omega
    | cons y ys =>
      obtain ⟨m, t, hy⟩ := i.all y (by rw [q]; exact List.mem_cons_self)
      refine ⟨y :: fs, PySem.W.KatTups.cons ho hc hdt (by have z := congrArg (fun l : List Value => l[0]?) q; simpa using z) k, by simp [hl], fun f hf => ?_⟩
      rcases List.mem_cons.mp hf with e | hf
      · exact ⟨m, t, e.trans hy⟩
      · exact hi f hf
theorem kindS {d : Nat} {M : Int} {vs : List Value} (hd : 1 ≤ d) (h2 : 2 ≤ vs.length) (x : TupsS s.heap d M vs) (r : Value → Int) (hr : ∀ v, v ∈ vs → ∀ ns, TupInts s.heap v ns → r v = rkS M ns) (Q : SortKind → Shared → Prop)
    (h : ∀ κ, Cmp prog w A s κ (pairsOf vs) r → Q κ s) : wpAny (model prog w) A (keyKind' vs.toArray) Q E s := by
  obtain ⟨fs, k, hl, hi⟩ := firstsS hd vs x
  refine PySem.W.kat_kind (T := Value.type "int") k (by omega) (fun f hf => ?_) rfl (h _ fun p q hp hq Q2 E2 hQ => ?_)
  · obtain ⟨n, t, rfl⟩ := hi f hf
    exact PySem.W.Looks.of_pure rfl
  · rw [pairsOf_toList] at hp hq
    obtain ⟨ns, tp, lp, bp⟩ := x _ (mem_zip_self hp).2
    obtain ⟨ms, tq, lq, bq⟩ := x _ (mem_zip_self hq).2
    rw [hr _ (mem_zip_self hp).2 _ tp, hr _ (mem_zip_self hq).2 _ tq] at hQ
    obtain ⟨a, xs, e1, ⟨o, ho, hc, n, hdt⟩, i⟩ := tp
    obtain ⟨a2, ys, e2, ⟨o2, ho2, hc2, n2, hdt2⟩, i2⟩ := tq
    rw [e1, e2]
    refine PySem.W.kat_lt ho hdt ho2 hdt2 ?_
    have l1 := i.length
    have l2 := i2.length
    rw [Array.length_toList] at l1 l2
    rw [show decide (xs.size < ys.size) = false from decide_eq_false (by omega)]
    exact lexS 0 i i2 (by omega) bp bq hQ
theorem sortS {a : Addr} {vs : List Value} {n d : Nat} {M : Int} {P : PySem.Fin → Shared → Prop} (ho : s.heap.get? a = some (seqObj "list" vs.toArray n)) (h64 : vs.length < 64) (hd : 1 ≤ d) (x : TupsS s.heap d M vs)
    (r : Value → Int) (hr : ∀ v, v ∈ vs → ∀ ns, TupInts s.heap v ns → r v = rkS M ns)
    (h : ∀ out : Array Value, out.toList.Perm vs → out.toList.Pairwise (fun u v => r u ≤ r v) → P (.done (.ret .none)) { s with heap := sortedHeap s.heap a vs out }) :
    wpAny (model prog w) A (Builtin.«list.sort» ⟨[.ref a], []⟩) P E s := by
  have stay : ∀ b o, s.heap.get? b = some o → o.cls = .type "tuple" → (midHeap s.heap a vs).get? b = some o := fun b o e hc => midHeap_old (fun z => by
    subst z
    have e2 : seqObj "list" vs.toArray n = o := Option.some.inj (ho.symm.trans e)
    rw [← e2] at hc
    exact absurd (Value.type.inj (show Value.type "list" = Value.type "tuple" from hc)) (by decide)) e
  refine SK.plain_sort (r := r) ho h64 (fun h2 Q hQ => kindS (s := { s with heap := midHeap s.heap a vs }) hd h2 (x.keeps stay) r (fun v hv ns t => ?_) Q hQ) fun ps out h1 h2 h3 => ?_
  · obtain ⟨ns0, t0, _⟩ := x v hv
    rw [t.ints.symm.trans (t0.keeps stay).ints]
    exact hr v hv ns0 t0
  · obtain ⟨z1, z2⟩ := out_rank h1 h2 h3
    exact h out z1 z2
theorem sortedS {l : Addr} {vs : List Value} {d : Nat} {M : Int} {Q : Value → Shared → Prop} (hl : s.heap.IsList l vs.toArray) (h64 : vs.length < 64) (hd : 1 ≤ d) (x : TupsS s.heap d M vs)
    (h : ∀ out : Array Value, out.toList.Perm vs → out.toList.Pairwise (fun u v => rkS M (intsOf s.heap u) ≤ rkS M (intsOf s.heap v)) → Q (.ref (s.heap.objs.size + 1)) { s with heap := sortedAll s.heap vs out }) :
    wpAny (model prog w) A (call (.builtin "sorted") [.ref l]) Q E s := by
  refine Calls.call_function_entry kind_sorted plain_sorted entry_sorted (args_sorted1 _) ?_
  unfold Builtin.«sorted»
  refine wpAny_bind (m := checkCount "sorted" 1 1 _) (wpAny_pure (wpAny_bind (collect_list hl ?_ (by rw [sizeLine_eq]; omega))))
  refine wpAny_bind (wpAny_newList ?_ (by rw [sizeLine_eq]; omega))
  generalize eH : (s.heap.push (seqObj "list" #[] 0)).update s.heap.objs.size (Obj.mapSeq (· ++ vs.toArray)) = h1
  have sz : h1.objs.size = s.heap.objs.size + 1 := by rw [← eH, Heap.size_update, size_push']
  have old : ∀ b o, s.heap.get? b = some o → (h1.push (seqObj "list" vs.toArray 0)).get? b = some o := fun b o q => by
    have lt : b < s.heap.objs.size := Heap.lt_size q
    rw [Heap.get?_push_ne _ _ _ (by rw [sz]; exact Nat.ne_of_lt (Nat.lt_succ_of_lt lt)), ← eH, Heap.get?_update_ne _ _ _ _ (Nat.ne_of_lt lt), Heap.get?_push_ne _ _ _ (Nat.ne_of_lt lt)]
    exact q
  have new : (h1.push (seqObj "list" vs.toArray 0)).get? (s.heap.objs.size + 1) = some (seqObj "list" vs.toArray 0) := by rw [← sz]; exact Heap.get?_push_size _ rfl
  show wpAny _ _ _ _ _ { s with heap := h1.push (seqObj "list" vs.toArray 0) }
  rw [sz]
  refine wpAny_bind (wpAny_holding (wpAny_call_entry slot_list_sort ⟨_, new, rfl⟩ entry_list_sort (sortS new h64 hd (x.keeps fun b o q _ => old b o q) (fun v => rkS M (intsOf s.heap v)) (fun v hv ns t => ?_) fun out z1 z2 => ⟨_, rfl, wpAny_pure ⟨_, rfl, ?_⟩⟩) (args_list_sort _)))
  · obtain ⟨ns0, t0, _⟩ := x v hv
    rw [t.ints.symm.trans (t0.keeps fun b o q _ => old b o q).ints, t0.ints]
  · have e := h out z1 z2
    rw [← eH]
    exact e
end
end TS
namespace Ly
open PySem L2 PySem.Spec PyProof.Rows
section
variable {X : Cx}
/-- sorted(xs), fewer than 64 tuples of d ints between -M and M -/
def rSortS (K : PySem.W.Frag) (d : Nat) (M : Int) : List V → Hp → VK → Prop := fun vs H Q => ∃ (a : Addr) (xs : List V), vs = [V.ref a] ∧ SqL K H a xs ∧ xs.length < 64 ∧ (∀ x ∈ xs, ∃ ns, TupI K H x ns ∧ ns.length = d ∧ ∀ m ∈ ns, -M ≤ m ∧ m ≤ M) ∧
  ∀ (ys : List V) (p : Addr), ys.Perm xs → ys.Pairwise (fun x y => ∀ n m, TupI K H x n → TupI K H y m → TS.rkS M n ≤ TS.rkS M m) → H p = none → Q (.ref p) (upd H p (.lst ys))
theorem cr_sortS {d : Nat} {M : Int} (hd : 1 ≤ d) : CallR X (.builtin "sorted") (rSortS X.K d M) := by
  intro pins s σ H vs us Q I r h
  obtain ⟨a, xs, rfl, hs, h64, hx, q⟩ := h
  obtain ⟨its, rv, hl, hz⟩ := I.list hs
  rw [Vals.ref1 r]
  obtain ⟨e1, e2⟩ := bkV_refs rv fun x m => by
    obtain ⟨ns, ⟨t, e, _⟩, _⟩ := hx x m
    exact ⟨t, e⟩
  refine TS.sortedS (d := d) (M := M) hl.isList (by rw [← rv.length]; exact h64) hd (fun v hv => ?_) fun out h1 h2 => ?_
  · obtain ⟨t, rfl⟩ := e2 v hv
    obtain ⟨ns, ⟨t2, e, ht⟩, hn, hb⟩ := hx (V.ref t) (by rw [e1]; exact List.mem_map.mpr ⟨_, hv, rfl⟩)
    cases e
    exact ⟨ns, tupI_raw I ht, hn, hb⟩
  · obtain ⟨ep, he⟩ := PyProof.Rows.sortedAll_at s.heap its out
    have hp : (out.toList.map bkV).Perm xs := by
      rw [e1]
      exact h1.map bkV
    refine ⟨.ref _, upd H (s.heap.objs.size + 1) (.lst (out.toList.map bkV)), I.laid (t' := s.toks) (fun _ _ => PyProof.Rows.sortedAll_old) (Nat.le_succ _) ⟨by rw [hp.length_eq]; exact hz, out.toList, ep, bkV_vals fun u hu => e2 u (h1.mem_iff.mp hu), he⟩, rfl, q _ _ hp ?_ (I.hok.fresh (Nat.le_succ _))⟩
    rw [List.pairwise_map]
    refine List.Pairwise.imp (fun {u v} huv n m ⟨t, et, ht⟩ ⟨t2, et2, ht2⟩ => ?_) h2
    rw [bkV_ref et, bkV_ref et2, (tupI_raw I ht).ints, (tupI_raw I ht2).ints] at huv
    exact huv
end
/-- rows of ints as data -/
abbrev rowD (ns : List Int) : Dat := .tup (ns.map Dat.int)
theorem reps_perm {K : PySem.W.Frag} {G : Hp} {xs ys : List V} (h : xs.Perm ys) : ∀ {ds : List Dat}, Reps K G xs ds → ∃ es, ds.Perm es ∧ Reps K G ys es := by
  induction h with
  | nil => exact fun r => ⟨_, .refl _, r⟩
  | cons x _ ih =>
    intro ds r
    cases r with
    | cons h r =>
      obtain ⟨es, p, q⟩ := ih r
      exact ⟨_, p.cons _, .cons h q⟩
  | swap x y l =>
    intro ds r
    cases r with
    | cons h r =>
      cases r with
      | cons h2 r => exact ⟨_, .swap _ _ _, .cons h2 (.cons h r)⟩
  | trans _ _ ih1 ih2 =>
    intro ds r
    obtain ⟨es, p1, q1⟩ := ih1 r
    obtain ⟨fs, p2, q2⟩ := ih2 q1
    exact ⟨fs, p1.trans p2, q2⟩
theorem perm_map_inv {α β : Type} {f : α → β} : ∀ {bs cs : List β}, bs.Perm cs → ∀ {as : List α}, bs = as.map f → ∃ es, cs = es.map f ∧ as.Perm es := by
  intro bs cs h
  induction h with
  | nil =>
    intro as e
    cases as with
    | nil => exact ⟨[], rfl, .refl _⟩
    | cons a as => cases e
  | cons x _ ih =>
    intro as e
    cases as with
    | nil => cases e
    | cons a as =>
      obtain ⟨h1, h2⟩ := List.cons.inj e
      obtain ⟨es, e2, p⟩ := ih h2
      exact ⟨a :: es, by rw [h1, e2]; rfl, p.cons _⟩
  | swap x y l =>
    intro as e
    cases as with
    | nil => cases e
    | cons a as =>
      obtain ⟨h1, h2⟩ := List.cons.inj e
      cases as with
      | nil => cases h2
      | cons b as =>
        obtain ⟨h3, h4⟩ := List.cons.inj h2
        exact ⟨b :: a :: as, by rw [h1, h3, h4]; rfl, .swap _ _ _⟩
  | trans _ _ ih1 ih2 =>
    intro as e
    obtain ⟨es, e1, p1⟩ := ih1 e
    obtain ⟨fs, e2, p2⟩ := ih2 e1
    exact ⟨fs, e2, p1.trans p2⟩
section
variable {W : Wd} {K : PySem.W.Frag} {Γ : List (Option Dat)} {ta : TE}
/-- sorted(rows) -/
theorem n_sortS {d : Nat} {M : Int} {rs : List (List Int)} (h : EvX W K ta Γ (.lst (rs.map rowD))) (h64 : rs.length < 64) (hr : ∀ ns ∈ rs, ns.length = d ∧ ∀ m ∈ ns, -M ≤ m ∧ m ≤ M) :
    EvN W K (tCB (rSortS K d M) (tCons ta tNil)) Γ fun ds => ∃ ss : List (List Int), ds = ss.map rowD ∧ ss.Perm rs ∧ ss.Pairwise fun n m => TS.rkS M n ≤ TS.rkS M m := fun σ G H n k Q q =>
  h σ G H n k _ fun v e G2 H2 s ee r => by
    subst ee
    obtain ⟨a, xs, rfl, hs, r⟩ := r.lst_inv
    have k2 := s.ok k
    have hlen := r.length
    rw [List.length_map] at hlen
    have row : ∀ {x : V} {ns : List Int}, Rep K G2 x (rowD ns) → TupI K H2 x ns := fun {x ns} rx => by
      obtain ⟨t, ws, rfl, ht, rw⟩ := rx.tup_inv
      have ew := rw.ints
      subst ew
      exact ⟨t, rfl, ex_t k2.ex ht⟩
    refine ⟨a, xs, rfl, ex_l k2.ex hs, by omega, fun x hx => ?_, fun ys p hp hpw hpn => ?_⟩
    · obtain ⟨i, hi⟩ := List.getElem?_of_mem hx
      obtain ⟨d0, hd, rd⟩ := r.getV hi
      obtain ⟨ns, hn, rfl⟩ := lt_get hd
      exact ⟨ns, row rd, hr ns (List.mem_of_getElem? hn)⟩
    · obtain ⟨es, pe, re⟩ := reps_perm hp.symm r
      obtain ⟨ss, e1, ps⟩ := perm_map_inv pe rfl
      subst e1
      refine q p ys _ G2 _ (s.trans (Stp.grow k2 (Ex.new hpn))) (back s hpn).1 (back (Stp.refl k2) hpn).2 upd_same re ⟨ss, rfl, ps.symm, ?_⟩
      have hpos : ∀ (i j : Nat) (hi : i < ss.length) (hj : j < ss.length), i < j → TS.rkS M ss[i] ≤ TS.rkS M ss[j] := fun i j hi hj hij => by
        obtain ⟨x, hx, rx⟩ := re.get (i := i) (d := rowD ss[i]) (by rw [List.getElem?_map, List.getElem?_eq_getElem hi]; rfl)
        obtain ⟨y, hy, ry⟩ := re.get (i := j) (d := rowD ss[j]) (by rw [List.getElem?_map, List.getElem?_eq_getElem hj]; rfl)
        obtain ⟨hxi, ex⟩ := List.getElem?_eq_some_iff.mp hx
        obtain ⟨hyi, ey⟩ := List.getElem?_eq_some_iff.mp hy
        have z := List.pairwise_iff_getElem.mp hpw i j hxi hyi hij
        rw [ex, ey] at z
        exact z _ _ (row rx) (row ry)
      exact List.pairwise_iff_getElem.mpr fun i j hi hj hij => hpos i j hi hj hij
end
end Ly

set_option maxHeartbeats 4000000
/-! # sets of texts: a comprehension, sorted of it -/
namespace Ly
open PySem L2 PySem.Spec PyProof.Rows PpSet
/-- the table rises and is led -/
def Led (w : World) (D : Froz.SD) : Prop := Ris D.2.2.place.toList ∧ (w.params.followText "set-order" = true ∨ D.2.2.led = true)
theorem led_tail {w : World} {ep : Nat} {es : Array (Int × Value)} {t : SetTable} {wd : Bool} (h : Ris t.place.toList) (hl : w.params.followText "set-order" = true ∨ t.led = true) : Led w (Froz.tailTx ep es t wd) := by
  unfold Froz.tailTx Led
  split
  · exact ⟨relayAll_ris .., hl.imp id fun z => (relayAll_led ..).trans z⟩
  · exact ⟨h, hl⟩
theorem led_add {w : World} {D : Froz.SD} {n : Int} {v : Value} (g : Led w D) : Led w (Froz.addTx n v D) := by
  have r := layNew_ris D.2.2 D.1 n v g.1
  have l : w.params.followText "set-order" = true ∨ (layNew D.2.2 D.1 n v).2.1.led = true := g.2.imp id fun z => (layNew_led ..).trans z
  unfold Froz.addTx
  split
  · exact led_tail r l
  · exact led_tail r l
/-- the set at a has the texts l -/
def TxS (P : Program) (w : World) (h : Heap) (a : Addr) (l : List Str) : Prop := ∃ D : Froz.SD, h.get? a = some (Froz.sObj "set" D) ∧ Froz.TxOk P w D l ∧ l.Nodup ∧ Led w D
def SetS (P : Program) (w : World) (a : Addr) (l : List Str) : HO := .ext fun h => TxS P w h a l
theorem setS_ok {P : Program} {w : World} {H : Hp} {h : Heap} {a : Addr} {l : List Str} (R : TxS P w h a l) : ObjOk P w H h a (SetS P w a l) := by
  have ⟨D, e, _⟩ := R
  exact ⟨R, ⟨_, e⟩, fun h1 h2 ⟨D, e, r⟩ k => ⟨D, k _ e, r⟩⟩
theorem txS_new {P : Program} {w : World} {h : Heap} : TxS P w (h.push { cls := .type "set", dict := none, data := .set #[] 0 (.fresh 0 0 (!w.params.followText "set-order")) }) h.objs.size [] :=
  ⟨(#[], 0, .fresh 0 0 (!w.params.followText "set-order")), Heap.get?_push_size _ rfl, Froz.TxOk.nil rfl, List.nodup_nil, List.Pairwise.nil, by
    show _ ∨ (!w.params.followText "set-order") = true
    cases w.params.followText "set-order"
    · exact .inr rfl
    · exact .inl rfl⟩
def addL (l : List Str) (k : Str) : List Str := if k ∈ l then l else k :: l
theorem addL_len (l : List Str) (k : Str) : (addL l k).length ≤ l.length + 1 := by
  unfold addL
  split <;> simp
theorem addL_mem {l : List Str} {k x : Str} : x ∈ addL l k ↔ x = k ∨ x ∈ l := by
  unfold addL
  split
  · rename_i h
    exact ⟨.inr, fun z => z.elim (fun e => e ▸ h) id⟩
  · exact List.mem_cons
section
variable {P : Program} {w : World} {A : Around} {E : Value → Shared → Prop} {s : Shared} {a : Addr} {l : List Str}
theorem add_old {T : String} {D : Froz.SD} {k : Str} {u : Tok} {Q : Bool → Shared → Prop} (ho : s.heap.get? a = some (Froz.sObj T D)) (F : Froz.TxOk P w D l) (hk : k ∈ l) (hb : l.length < scanBound) (q : Q false s) : wpAny (model P w) A (setAddHashed a (.str k u) (hashStr w k)) Q E s := by
  obtain ⟨rows, ep, t⟩ := D
  have len : rows.size = l.length := F.sz
  have small : rows.size < scanBound := by rw [len]; exact hb
  have hd : (Froz.sObj T (rows, ep, t)).data = .set rows ep t := rfl
  have fits : t.fits rows.size = true := F.fit
  have elems : ElemsOf (strKind P w) rows.toList := F.el
  unfold setAddHashed
  unfold setAddHashedIn
  refine wpAny_holding ?_
  refine wpAny_bind (wpAny_setState_of ho hd fits ?_)
  dsimp only
  rw [byScan_of rfl small elems]
  simp only [if_true]
  unfold setAddByScan
  refine wpAny_bind (wpAny_bind (wpAny_rule (wpAny_bind (wpAny_setScan_of (knd := strKind P w) (k := k) (Froz.is_str k u) ho hd fits elems ?_))))
  cases found : List.findIdx? (fun e => (strKind P w).is k e.2) rows.toList with
  | some j => exact wpAny_pure (wpAny_pure q)
  | none =>
    obtain ⟨e, he, z⟩ := (F.mem k).mp hk
    have no := List.findIdx?_eq_none_iff.mp found e he
    rw [z] at no
    cases no
theorem set_addS {k : Str} {u : Tok} {Q : Value → Shared → Prop} (R : TxS P w s.heap a l) (room : l.length + 1 < scanBound)
    (q : ∀ h', (∀ b o, b ≠ a → s.heap.get? b = some o → h'.get? b = some o) → TxS P w h' a (addL l k) → Q .none { s with heap := h', toks := s.toks + 1 }) : wpAny (model P w) A (call (.builtin "set.add") [.ref a, .str k u]) Q E s := by
  obtain ⟨D, ho, tx, nd, led⟩ := R
  refine wpAny_call_entry F.slot_set_add (T := "set") ⟨_, ho, rfl⟩ F.entry_set_add ?_ (F.args_set_add_2 _ _)
  unfold Builtin.«set.add»
  unfold Builtin.Frozenset.oneOther
  simp only [List.isEmpty_nil, bind_assoc]
  unfold Builtin.Frozenset.addrOf
  unfold setAdd
  refine wpAny_bind (wpAny_pure ?_)
  refine wpAny_bind (wpAny_pure ?_)
  refine wpAny_bind (wpAny_holding (wpAny_bind ((strKind P w).pyHash (Froz.is_str k u) ?_)))
  by_cases hk : k ∈ l
  · refine add_old (s := { s with toks := s.toks + 1 }) ho tx hk (by omega) ?_
    exact wpAny_pure ⟨_, rfl, q s.heap (fun _ _ _ e => e) (by unfold addL; rw [if_pos hk]; exact ⟨D, ho, tx, nd, led⟩)⟩
  · refine Froz.add_x (s := { s with toks := s.toks + 1 }) ho tx hk room ?_
    refine wpAny_pure ⟨_, rfl, q _ (fun b o hb e => (Heap.get?_update_other _ _ (Ne.symm hb)).trans e) ?_⟩
    unfold addL
    rw [if_neg hk]
    exact ⟨_, Froz.get_upd _ ho rfl, Froz.add_ok u tx, List.nodup_cons.mpr ⟨hk, nd⟩, led_add led⟩
theorem perm_all : ∀ {l zs : List Str}, l.Nodup → (∀ k, k ∈ l → k ∈ zs) → zs.length = l.length → zs.Perm l
  | [], zs, _, _, h => by rw [List.length_eq_zero_iff.mp h]
  | k :: l, zs, nd, sub, h => by
    obtain ⟨n1, n2⟩ := List.nodup_cons.mp nd
    have hk := sub k List.mem_cons_self
    refine (List.perm_cons_erase hk).trans (.cons _ (perm_all n2 (fun x hx => ?_) ?_))
    · exact (List.mem_erase_of_ne (a := x) (b := k) (fun e : x = k => n1 (e ▸ hx))).mpr (sub x (List.mem_cons_of_mem _ hx))
    · rw [List.length_erase_of_mem hk, h]
      rfl
theorem strs_same : ∀ {vs : List Value} {ks : List Str}, StrsAre vs ks → vs.map strOf = ks
  | _, _, h => h.strs
theorem sorted_setS {Q : Value → Shared → Prop} (R : TxS P w s.heap a l) (hh : A.handled = none) (h64 : l.length < 64)
    (q : ∀ s' p (out : Array Value) (c : Nat) (ys : List Str), (∀ b o, s.heap.get? b = some o → s'.heap.get? b = some o) → s'.gens = s.gens → s'.os = s.os → s.heap.objs.size ≤ p →
      s'.heap.get? p = some (seqObj "list" out c) → StrsAre out.toList ys → ys.Perm l → sortedS ys = true → Q (.ref p) s') : wpAny (model P w) A (call (.builtin "sorted") [.ref a]) Q E s := by
  obtain ⟨⟨rows, ep, t⟩, ho, F, nd, led⟩ := R
  have len : rows.size = l.length := F.sz
  have small : rows.size < scanBound := by rw [len]; exact Nat.lt_trans h64 (by decide)
  refine Calls.call_function_entry kind_sorted plain_sorted entry_sorted (args_sorted1 _) ?_
  unfold Builtin.«sorted»
  refine wpAny_bind (m := checkCount "sorted" 1 1 _) (wpAny_pure (wpAny_bind ?_))
  refine collect_set (A := A.in1) hh ⟨_, ho, rfl, rfl⟩ F.fit small led.1 led.2 fun s1 vs old size gens os pm => ?_
  have hvl : vs.length = l.length := by rw [pm.length_eq, List.length_map, Array.length_toList, len]
  -- the texts that were gathered
  have each : ∀ v ∈ vs, ∃ k u, v = Value.str k u := fun v hv => by
    obtain ⟨e, he, ev⟩ := List.mem_map.mp (pm.mem_iff.mp hv)
    obtain ⟨⟨k, isk, _⟩, _⟩ := F.el e he
    obtain ⟨u, z⟩ := Value.isStrOf_shape (x := k) (v := e.2) isk
    exact ⟨k, u, by rw [← ev]; exact z⟩
  have texts : ∃ zs : List Str, StrsAre vs zs := by
    clear pm hvl
    induction vs with
    | nil => exact ⟨[], .nil⟩
    | cons v vs ih =>
      obtain ⟨k, u, rfl⟩ := each v List.mem_cons_self
      obtain ⟨zs, r⟩ := ih fun x hx => each x (List.mem_cons_of_mem _ hx)
      exact ⟨k :: zs, .cons _ _ r⟩
  obtain ⟨zs, hS⟩ := texts
  have hm : ∀ k, k ∈ l → k ∈ zs := fun k hk => by
    obtain ⟨e, he, isk⟩ := (F.mem k).mp hk
    obtain ⟨u, z⟩ := Value.isStrOf_shape (x := k) (v := e.2) isk
    have mv : e.2 ∈ vs := pm.mem_iff.mpr (List.mem_map.mpr ⟨e, he, rfl⟩)
    rw [← hS.strs]
    exact List.mem_map.mpr ⟨e.2, mv, by rw [z]; rfl⟩
  have hzl : zs.length = l.length := by rw [← hS.strs, List.length_map, hvl]
  have pz : zs.Perm l := perm_all nd hm hzl
  refine wpAny_bind (wpAny_newList ?_ (by rw [hvl, sizeLine_eq]; omega))
  have hoL : (s1.heap.push (seqObj "list" vs.toArray 0)).get? s1.heap.objs.size = some (seqObj "list" vs.toArray 0) := Heap.get?_push_size _ rfl
  refine wpAny_bind (wpAny_holding (wpAny_call_entry slot_list_sort ⟨_, hoL, rfl⟩ entry_list_sort
    (list_sort_treeK strKind_oneLt hoL hS.keysOf (fun v₁ v₂ rest e => keyKind_strs (by rw [← e]; exact hS)) (by rw [hvl]; exact h64) fun st' hp hs => ⟨_, rfl, ?_⟩) (args_list_sort _)))
  obtain ⟨ys, y1, y2, y3⟩ := sorted_out_str hS hp hs
  obtain ⟨c, hc⟩ := sortedHeap_at (vs := vs) (out := (arrOf st').map (·.2)) hoL
  refine wpAny_pure ⟨_, rfl, q _ s1.heap.objs.size _ c ys (fun b o e => ?_) gens os size hc y1 (y2.trans pz) y3⟩
  have e1 := old b o e
  have lt := Heap.lt_size e1
  show (sortedHeap (s1.heap.push (seqObj "list" vs.toArray 0)) s1.heap.objs.size vs ((arrOf st').map (·.2))).get? b = some o
  rw [sortedHeap_old (Nat.ne_of_lt lt) (by rw [size_push']; exact Nat.lt_succ_of_lt lt)]
  exact Heap.get?_push_of_some _ e1
end
section
variable {X : Cx}
def rSrtS (P : Program) (w : World) : List V → Hp → VK → Prop := fun vs H Q => ∃ (a : Addr) (l : List Str), vs = [V.ref a] ∧ H a = some (SetS P w a l) ∧ l.length < 64 ∧ ∀ ys p, ys.Perm l → sortedS ys = true → H p = none → Q (.ref p) (upd H p (.lst (ys.map V.str)))
theorem cr_srtS (hc : X.calm = true) : CallR X (.builtin "sorted") (rSrtS X.prog X.w) := by
  intro pins s σ H vs us Q I r h
  obtain ⟨a, l, rfl, ha, h64, q⟩ := h
  have R : TxS X.prog X.w s.heap a l := (I.hok a _ ha).1
  rw [Vals.ref1 r]
  refine sorted_setS R (I.ok.hd hc) h64 fun s' p out c ys old gens os hp hg hi pm so => ?_
  have small : (ys.map V.str).length ≤ sizeLine := by rw [List.length_map, pm.length_eq, sizeLine_eq]; omega
  have none1 : H p = none := I.hok.fresh hp
  have J : Inv X pins σ (upd H p (.lst (ys.map V.str))) { s with heap := s'.heap, gens := s'.gens, drawn := s'.drawn, toks := s'.toks } :=
    I.call (ch := []) (Un.laid old hp none1) (I.hok.laid old hp ⟨small, out.toList, c, vals_of_strs hi, hg⟩) (by rw [gens]; exact I.bare) (fun _ z => nomatch z)
  have e : s' = { s with heap := s'.heap, gens := s'.gens, drawn := s'.drawn, toks := s'.toks } := by
    cases s'
    cases s
    cases os
    rfl
  rw [e]
  exact ⟨.ref p, _, J, rfl, q ys p pm so none1⟩
end
end Ly

set_option maxHeartbeats 4000000
/-! # a set comprehension, the adding a word of its own -/
namespace Ly
open PySem L2 PySem.Spec PyProof.Rows PpSet
abbrev AccS := V → Addr → Hp → (Hp → Prop) → Prop
/-- the adding: from any context -/
def AccSD (P : Program) (w : World) (acc : AccS) : Prop := ∀ (X : Cx) (pins : List (Addr × Obj)) (τ : L2.St) (B : Hp) (t : Shared) (F : Value → Shared → Prop) (D : Addr) (y : V) (u : Value) (N : Hp → Prop) (Q : Value → Shared → Prop),
  X.prog = P → X.w = w → Inv X pins τ B t → RelV y u → acc y D B N → (∀ v B2 t2, Inv X pins τ B2 t2 → N B2 → Q v t2) → wpAny (model X.prog X.w) X.A (call (.builtin "set.add") [.ref D, u]) Q F t
def accTx (P : Program) (w : World) : AccS := fun y D B N => ∃ k l, y = .str k ∧ B D = some (SetS P w D l) ∧ l.length + 1 < scanBound ∧ N (upd B D (SetS P w D (addL l k)))
theorem accTx_ok {P : Program} {w : World} : AccSD P w (accTx P w) := by
  intro X pins τ B t F D y u N Q eP ew I ry ⟨k, l, ey, eD, hl, hN⟩ q
  subst eP ew ey
  obtain ⟨tk, rfl⟩ := ry
  have R : TxS X.prog X.w t.heap D l := (I.hok D _ eD).1
  refine set_addS R hl fun h' old new => q _ _ _ ?_ hN
  have there : ∃ u, h'.get? D = some u := by
    obtain ⟨_, e, _⟩ := new
    exact ⟨_, e⟩
  exact I.write (e := D) (t' := t.toks + 1) (by rw [eD]; trivial) (.inl rfl) old there (setS_ok new)
def tScG (O0 : Addr → HO) (acc : AccS) (wi : TI) (g : TG) (tt : TT) (te : TE) (vs : List Nat) : TE := fun σ H Q => wi σ H fun it H1 => ∀ D, H1 D = none → ∃ J : Nat → Nat → Hp → Prop, (∃ m, J 0 m (upd H1 D (O0 D))) ∧ ∀ i m B, J i m B →
  (it.stop i B ∧ Q (.ref D) B) ∨ (it.go i B ∧ ∃ N : Hp → Prop, (∀ B2, N B2 → ∃ k, k < m ∧ J (i + 1) k B2) ∧ ∀ x B2, it.yld i B x B2 → g x (wipe σ vs) B2 fun τ B3 => wipe τ vs = wipe σ vs ∧ tt τ B3 fun c B4 =>
    if c = true then te τ B4 fun y B5 => acc y D B5 N else N B4)
section
variable {X : Cx} {acc : AccS} {O0 : Addr → HO}
theorem pe_scG {elt tg src : Expr} {tests : List Expr} {scope : Scope} {own : List (Str × Nat)} {pos : Pos} {wi : TI} {g : TG} {tt : TT} {te : TE}
    (hacc : AccSD X.prog X.w acc) (hnew : ∀ (B : Hp) (h : Heap), ObjOk X.prog X.w B (h.push { cls := .type "set", dict := none, data := .set #[] 0 (.fresh 0 0 (!X.w.params.followText "set-order")) }) h.objs.size (O0 h.objs.size))
    (hc : X.calm = true) (hN : X.N.Nodup) (hi : PI X tg src wi) (ok : BlkOk X.N X.env.scope scope own)
    (hg : ∀ (s : Shared) (H : Hp) (C : Addr) (cl : List (Str × Addr)) (fp : List Addr), PG (X.blk s H scope (compEnvC scope cl C X.env) fp) tg g) (ht : ∀ (s : Shared) (H : Hp) (C : Addr) (cl : List (Str × Addr)) (fp : List Addr), PTs (X.blk s H scope (compEnvC scope cl C X.env) fp) tests tt)
    (he : ∀ (s : Shared) (H : Hp) (C : Addr) (cl : List (Str × Addr)) (fp : List Addr), PE (X.blk s H scope (compEnvC scope cl C X.env) fp) elt te) (hs : ∀ x, foldedSetIterable src X.env x = pure x := by intro _; rfl) :
    PE X (.SetComp elt [⟨tg, src, tests, 0⟩] scope pos) (tScG O0 acc wi g tt te (own.map (·.2))) := by
  refine ⟨fun pins s σ H Q I h => ?_⟩
  rw [eval_SetComp]
  have free : ∀ y ∈ scope.names, y.2 = .free → ∃ c, X.env.cells.lookup y.1 = some c := fun y hy e => (ok.free y hy e).elim (fun z => I.ok.has _ (.inl z)) fun z => I.ok.has _ (.inr z)
  refine wpAny_comprehension_free (use := none) rfl hs (closure_ok free) ok.kind (fun y hy e => by rw [ok.uniq y hy, e])
    (thn (hi.run pins s σ H _ I h) fun xv sA hA => thn hA fun iv sB hB => ?_)
  obtain ⟨it, fp, tn, J0, HB, e, IB, T, stB, fB, q⟩ := hB
  subst e
  refine newSet_ok (newEnv_comp ?_)
  generalize eD : sB.heap.objs.size = D
  have freshD : HB D = none := IB.hok.fresh (Nat.le_of_eq eD)
  obtain ⟨J, ⟨m0, start⟩, turn⟩ := q D freshD
  generalize eC : ({ sB with heap := sB.heap.push { cls := .type "set", dict := none, data := .set #[] 0 (.fresh 0 0 (!X.w.params.followText "set-order")) } } : Shared) = sC
  have hpC : sC.heap = sB.heap.push { cls := .type "set", dict := none, data := .set #[] 0 (.fresh 0 0 (!X.w.params.followText "set-order")) } := by rw [← eC]
  have IC : Inv X pins σ (upd HB D (O0 D)) sC := by
    rw [← eC]
    refine IB.laid (t' := sB.toks) (fun b o z => Heap.get?_push_of_some _ z) (Nat.le_of_eq eD) ?_
    rw [← eD]
    exact hnew _ sB.heap
  have lts : ∀ b ∈ fp, b < sB.heap.objs.size := fun b hb => Heap.lt_size (T.obj _ _ stB b hb).choose_spec.1
  have fC : ∀ b ∈ fp, FpOk X pins (upd HB D (O0 D)) b ∧ b < sC.heap.objs.size := fun b hb => by
    have lt := lts b hb
    refine ⟨⟨by rw [upd_ne (by rw [← eD]; exact Nat.ne_of_lt lt)]; exact (fB b hb).1, (fB b hb).2⟩, ?_⟩
    rw [hpC, Heap.size_push]
    exact Nat.lt_succ_of_lt lt
  have stC : tn 0 sC.heap := T.keep _ _ _ stB fun b _ o z => by rw [hpC]; exact Heap.get?_push_of_some _ z
  have ID := block_start IC ok hN fC
  generalize eH : upd HB D (O0 D) = HC at IC ID start fC
  have nfp : ∀ b ∈ fp, HC b = none := fun b hb => (fC b hb).1.1
  show codeAny _ _ (.compStart (.SetComp elt [⟨tg, src, tests, 0⟩] scope pos) 0 (.ref it) (.ref D) (compEnvC scope (cellsFrom (sC.heap.objs.size + 1) scope.names (cloFrom X.env.cells scope.names [])) sC.heap.objs.size X.env)) (compPost (model X.prog X.w) X.A X.xe none _ (.ref D) sC.heap.objs.size) { sC with heap := pushCells (sC.heap.push { cls := .type "dict", data := .dict #[] }) scope.names }
  generalize eE : compEnvC scope (cellsFrom (sC.heap.objs.size + 1) scope.names (cloFrom X.env.cells scope.names [])) sC.heap.objs.size X.env = ce at ID ⊢
  have pg : PG (X.blk sC HC scope ce fp) tg g := by rw [← eE]; exact hg ..
  have pt : PTs (X.blk sC HC scope ce fp) tests tt := by rw [← eE]; exact ht ..
  have pv : PE (X.blk sC HC scope ce fp) elt te := by rw [← eE]; exact he ..
  have locs : ce.locals = sC.heap.objs.size := by rw [← eE]; rfl
  generalize eS : ({ sC with heap := pushCells (sC.heap.push { cls := .type "dict", data := .dict #[] }) scope.names } : Shared) = sD at ID ⊢
  have stD : tn 0 sD.heap := T.keep _ _ _ stC fun b _ o z => by rw [← eS]; exact pushCells_keeps _ _ _ _ (Heap.get?_push_of_some _ z)
  have stay : ∀ {τ : L2.St} {B : Hp} {t : Shared}, Inv (X.blk sC HC scope ce fp) [] τ B t → (∀ b ∈ fp, B b = none) → ∀ b ∈ fp, FpOk (X.blk sC HC scope ce fp) [] B b := fun {τ B t} I2 hn b hb =>
    ⟨hn b hb, (I2.ok.exf b hb).1, I2.ok.exfs b hb, .inl hb, fun x c z => (I2.ok.exf b hb).2 x c z, fun p hp => absurd (show p ∈ ([] : List (Addr × Obj)) ++ [] from hp) (by simp)⟩
  refine codeAny_compStart_set ?loop (T.self X.A 0 _ _ _ stD ?loop)
  refine compLoopS_any (fun n t => ∃ i B, Inv (X.blk sC HC scope ce fp) [] (wipe σ (own.map (·.2))) B t ∧ tn i t.heap ∧ (∀ b ∈ fp, B b = none) ∧ J i n B) ?_ m0 ⟨0, HC, ID, stD, nfp, start⟩
  rintro n t ⟨i, B, It, stt, nt, jt⟩
  rcases turn i n B jt with ⟨stop, qq⟩ | ⟨go, N, next, step⟩
  · refine thnF (T.done (X.blk sC HC scope ce fp) rfl rfl rfl hc i [] t _ B (fun _ _ => False) It (stay It nt) stt stop) fun r t2 ⟨er, I2⟩ => ?_
    subst er
    have I3 : Inv X pins σ B t2 := IC.call' (ch := fp) I2.os I2.base I2.hok I2.bare fun b hb => by
      obtain ⟨⟨_, z1, z2, z3, z4, z5⟩, _⟩ := fC b hb
      exact ⟨z3, z1, z4, z5⟩
    obtain ⟨m, hn, _⟩ := I2.loc
    have hn : t2.heap.Ns ce.locals m := hn
    have none1 : B ce.locals = none := I2.free
    rw [locs] at hn none1
    obtain ⟨z0, z1, z2, z3, z4, z5⟩ := IC.fpOk (Nat.le_refl _) none1
    refine ⟨m, hn, fun h2 sb => ?_⟩
    have I4 := (Inv.turned (t' := t2.toks) I3 (fun b o hb e => (sb.2 b hb).trans e) z0 z1 z3 z4 z5)
    exact ⟨.ref D, B, I4, rfl, qq⟩
  · refine thnF (T.item (X.blk sC HC scope ce fp) rfl rfl rfl hc i [] t _ B (fun _ _ => False) It (stay It nt) stt go) fun r t2 ⟨u, er, h2⟩ => ?_
    subst er
    refine thnF h2 fun _ t3 ⟨x, B3, I3, r3, y3, st3, n3⟩ => ?_
    have I4 := I3.pinned (stay I3 n3) (T.obj _ _ st3)
    refine thnF (pg.run _ t3 _ B3 x u _ I4 r3 (step x B3 y3)) fun _ t4 ⟨τ, B4, I5, hw, q5⟩ => ?_
    refine thnF (pt.run _ t4 τ B4 _ I5 q5) fun c t5 ⟨B5, I6, q6⟩ => ?_
    have done : ∀ (B6 : Hp) (t6 : Shared), Inv (X.blk sC HC scope ce fp) ([] ++ pinsAt fp t3.heap) τ B6 t6 → N B6 → ∃ m, m < n ∧ ∃ i B, Inv (X.blk sC HC scope ce fp) [] (wipe σ (own.map (·.2))) B t6 ∧ tn i t6.heap ∧ (∀ b ∈ fp, B b = none) ∧ J i m B := fun B6 t6 I7 hN2 => by
      obtain ⟨m, hm, j7⟩ := next B6 hN2
      have pinned : ∀ b ∈ fp, ∀ o, t3.heap.get? b = some o → t6.heap.get? b = some o ∧ B6 b = none := fun b hb o z => by
        obtain ⟨z1, z2, _⟩ := I7.pin (b, o) (List.mem_append_right _ (List.mem_append_right _ (mem_pinsAt hb z)))
        exact ⟨z1, z2⟩
      refine ⟨m, hm, i + 1, B6, (I7.unpinned (pins := [])).weak (by rw [← hw, wipe_length]) (fun j v z => ?_), T.keep _ _ _ st3 fun b hb o z => (pinned b hb o z).1, fun b hb => ?_, j7⟩
      · rw [← hw] at z
        exact (wipe_some z).1
      · obtain ⟨o, z, _⟩ := T.obj _ _ st3 b hb
        exact (pinned b hb o z).2
    cases c with
    | false =>
      simp only [Bool.false_eq_true, if_false] at q6 ⊢
      exact done _ _ I6 q6
    | true =>
      simp only [if_true] at q6 ⊢
      refine thnF (pv.run _ t5 τ B5 _ I6 q6) fun yu t6 ⟨y, B6, I7, ry, q7⟩ => ?_
      exact hacc (X.blk sC HC scope ce fp) _ τ B6 t6 _ D y yu N _ rfl rfl I7 ry q7 fun _ B8 t8 I9 hN2 => done B8 t8 I9 hN2
theorem setS_new {P : Program} {w : World} (B : Hp) (h : Heap) : ObjOk P w B (h.push { cls := .type "set", dict := none, data := .set #[] 0 (.fresh 0 0 (!w.params.followText "set-order")) }) h.objs.size (SetS P w h.objs.size []) := setS_ok txS_new
end
end Ly

set_option maxHeartbeats 4000000
/-! # sorted of a set comprehension of texts -/
namespace Ly
open PySem L2 PySem.Spec PyProof.Rows
section
variable {W : Wd} {K : PySem.W.Frag} {Γ : List (Option Dat)} {te tl : TE} {tt : TT} {G H G2 H2 : Hp} {P : Program} {w : World}
theorem Stp.own {Dl : Addr} {o : HO} (s : Stp W G H G2 H2) (gD : G2 Dl = none) (hD : H Dl = none) (nm : ¬ W.m Dl) : Stp W G H G2 (upd H2 Dl o) :=
  ⟨s.gg, fun a u e => by rw [upd_ne (ne_of_none e gD)]; exact s.gh a u e, fun a u hm e => by rw [upd_ne (ne_of_none e hD)]; exact s.hh a u hm e, s.nw, W.loc s.inv fun a ha => upd_ne fun e => nm (e ▸ ha)⟩
theorem Ok.gnone {Dl : Addr} (k : Ok W G H) (hD : H Dl = none) : G Dl = none := by
  cases e : G Dl with
  | none => rfl
  | some u =>
    rw [k.ex Dl u e] at hD
    cases hD
theorem Ok.nm {Dl : Addr} (k : Ok W G H) (hD : H Dl = none) : ¬ W.m Dl := fun z => by
  obtain ⟨o, ho⟩ := W.tr k.inv z
  rw [ho] at hD
  cases hD
theorem Stp.gn {Dl : Addr} {o : HO} (s : Stp W G H G2 H2) (gD : G Dl = none) (hD : H Dl = some o) : G2 Dl = none := by
  cases e : G2 Dl with
  | none => rfl
  | some u =>
    rcases s.nw Dl u e with q | q
    · rw [gD] at q
      cases q
    · rw [hD] at q
      cases q
theorem v_srtS {j : Nat} {ks : List Str} {p : Str → Bool} (h : EvX W K tl Γ (.lst (ks.map Dat.str))) (hz : ks.length ≤ 4000) (h64 : ((ks.filter p).foldl addL []).length < 64)
    (ht : ∀ k ∈ ks, EvBX W K tt ((wipeG Γ [j]).set j (some (.str k))) (p k)) (he : ∀ k ∈ ks, EvX W K te ((wipeG Γ [j]).set j (some (.str k))) (.str k)) :
    EvN W K (tCB (rSrtS P w) (tCons (tScG (fun D => SetS P w D []) (accTx P w) (iList K tl) (gName j) tt te [j]) tNil)) Γ fun ds => ∃ ys : List Str, ds = ys.map Dat.str ∧ ys.Perm ((ks.filter p).foldl addL []) ∧ sortedS ys = true := fun σ G H n k Q q =>
  h σ G H n k _ fun v d G2 H2 s e r => by
    subst e
    obtain ⟨a, xs, rfl, hx, r⟩ := r.lst_inv
    have k2 := s.ok k
    have hlen := r.length
    rw [List.length_map] at hlen
    refine ⟨a, rfl, ⟨xs, ex_l k2.ex hx⟩, fun Dl hD => ?_⟩
    have g2D := k2.gnone hD
    have nm := k2.nm hD
    refine ⟨fun i m B => m = xs.length - i ∧ i ≤ xs.length ∧ ∃ G' l, Stp W G2 H2 G' B ∧ G' Dl = none ∧ B Dl = some (SetS P w Dl l) ∧ l = (((ks.take i).filter p).foldl addL []) ∧ l.length ≤ i, ⟨xs.length, by simp, Nat.zero_le _, G2, [], Stp.grow k2 (Ex.new hD), g2D, upd_same, rfl, Nat.le_refl _⟩, ?_⟩
    rintro i m B ⟨rfl, hi, G', l, st, gD, bD, el, hll⟩
    have k' := st.ok k2
    have hxB : SqL K B a xs := ex_l (st.gg.trans k'.ex) hx
    by_cases hlt : i < xs.length
    · refine .inr ⟨⟨xs, xs[i], hxB, by simp [hlt]⟩, fun B2 => ∃ G' l, Stp W G2 H2 G' B2 ∧ G' Dl = none ∧ B2 Dl = some (SetS P w Dl l) ∧ l = (((ks.take (i + 1)).filter p).foldl addL []) ∧ l.length ≤ i + 1, fun B2 p => ⟨xs.length - (i + 1), by omega, rfl, hlt, p⟩, fun x B2 y => ?_⟩
      obtain ⟨e, y⟩ := y
      subst e
      obtain ⟨d, hd, rdx⟩ := r.getV (y xs hxB)
      rw [List.getElem?_map] at hd
      obtain ⟨kk, hk, rfl⟩ : ∃ kk, ks[i]? = some kk ∧ d = .str kk := by
        cases ek : ks[i]? with
        | none =>
          rw [ek] at hd
          cases hd
        | some kk =>
          rw [ek] at hd
          exact ⟨kk, rfl, (Option.some.inj hd).symm⟩
      have hm : kk ∈ ks := List.mem_of_getElem? hk
      have next : ks.take (i + 1) = ks.take i ++ [kk] := by rw [List.take_succ, hk]; rfl
      have env := env_turn (j := j) (n.mono (s.gg.trans st.gg)) (rdx.mono st.gg)
      refine ⟨wipe1, ht kk hm _ G' B2 env k' _ fun c G3 B3 s3 ec => ?_⟩
      subst ec
      have gD3 := s3.gn gD bD
      have bD3 := s3.hh Dl _ nm bD
      cases hp : p kk with
      | false => exact ⟨G3, l, st.trans s3, gD3, bD3, by rw [next, List.filter_append, el]; simp [hp], by omega⟩
      | true =>
        show te _ B3 fun y B5 => accTx P w y Dl B5 _
        refine he kk hm _ G3 B3 (env.mono s3.gg) (s3.ok k') _ fun z dz G5 B5 s5 ez rz => ?_
        subst ez
        cases rz
        have gD5 := s5.gn gD3 bD3
        have bD5 := s5.hh Dl _ nm bD3
        have small : l.length + 1 < scanBound := by
          show l.length + 1 < 4096
          omega
        refine ⟨kk, l, rfl, bD5, small, G5, addL l kk, (st.trans (s3.trans s5)).own gD5 hD nm, gD5, upd_same, ?_, ?_⟩
        · rw [next, List.filter_append, List.foldl_append, ← el]
          simp [hp]
        · have := addL_len l kk
          omega
    · have e : i = xs.length := by omega
      subst e
      refine .inl ⟨⟨xs, hxB, Nat.le_refl _⟩, ?_⟩
      rw [hlen, List.take_length] at el
      subst el
      refine ⟨Dl, _, rfl, bD, h64, fun ys p1 pm so hp1 => ?_⟩
      have s7 := s.trans st
      refine q p1 _ (ys.map Dat.str) G' _ (s7.trans (Stp.grow (st.ok k2) (Ex.new hp1))) (back s7 hp1).1 (back s7 hp1).2 upd_same ?_ ⟨ys, rfl, pm, so⟩
      clear pm so
      induction ys with
      | nil => exact .nil
      | cons y ys ih => exact .cons (.str y) ih
end
end Ly

set_option maxHeartbeats 4000000
/-! # calls whose error passes on -/
namespace Ly
open PySem L2 PySem.Spec PyProof.Rows
section
variable {W : Wd} {K : PySem.W.Frag} {Γ : List (Option Dat)} {ta tb tc te tl tv tn : TE} {tt tu : TT} {tA : TA} {P : Dat → Prop} {d a b e : Dat} {G1 G0 H0 G H G2 H2 : Hp} {O : List (Addr × List Dat)} {σ : L2.St} {D : Ends} {tz ts tw : TS} {Q : VK} {E : XK}
theorem x_callPE {A : XSig} {R : List Dat → Prop} (h : EvA W K tA Γ R) (S : S4 W K G1 G0 H0 Γ O σ G H) (k : ∀ ds, R ds → ∃ o, A ds o ∧ OutK W K G1 G0 H0 Γ O σ Q E o) :
    tCall (spX Wd0 K A) [] E tA σ H Q := h σ G H S.env S.ok _ fun vs ds G2 H2 s p r => by
  rw [List.append_nil]
  have S2 := S.step s
  obtain ⟨o, ha, K⟩ := k ds p
  refine ⟨G2, ds, o, S2.ok.pure, r, ha, ?_⟩
  cases o with
  | val P => exact fun v d G3 H3 t pd rd => K.kv P rfl v d G3 H3 (S2.step (Stp.of0 S2.ok t)) pd rd
  | err C fs => exact fun d G3 H3 t h1 h2 => K.ke C fs rfl d G3 H3 (S2.step (Stp.of0 S2.ok t)) h1 h2
theorem x_methPE {A : XSig} {R : List Dat → Prop} {m : Str} {C : Addr} {fsd : List (Str × Dat)} (h0 : EvX W K ta Γ (.obj C fsd)) (hm : fsd.lookup m = none) (h : EvA W K tA Γ R) (S : S4 W K G1 G0 H0 Γ O σ G H)
    (k : ∀ ds, R ds → ∃ o, A (.obj C fsd :: ds) o ∧ OutK W K G1 G0 H0 Γ O σ Q E o) : tMeth C m (spX Wd0 K A) [] E ta tA σ H Q := h0 σ G H S.env S.ok _ fun v e G2 H2 s ee r => by
  subst ee
  have S2 := S.step s
  cases r with
  | @obj a C dx vs fs hg fl =>
    refine ⟨a, dx, vs, rfl, S2.ok.ex _ _ hg, fl.none hm, ?_⟩
    refine h σ G2 H2 S2.env S2.ok _ fun ws ds G3 H3 s3 p r3 => ?_
    rw [List.append_nil]
    have S3 := S2.step s3
    obtain ⟨o, ha, K⟩ := k ds p
    refine ⟨G3, _, o, S3.ok.pure, .cons (.obj (s3.gg _ _ hg) (fl.mono s3.gg)) r3, ha, ?_⟩
    cases o with
    | val P => exact fun v d G4 H4 t pd rd => K.kv P rfl v d G4 H4 (S3.step (Stp.of0 S3.ok t)) pd rd
    | err C2 fs2 => exact fun d G4 H4 t h1 h2 => K.ke C2 fs2 rfl d G4 H4 (S3.step (Stp.of0 S3.ok t)) h1 h2
/-- xs != [] -/
theorem v_neNil {n : Nat} {ds : List Dat} (ha : EvX W K ta Γ (.lst ds)) (hb : EvX W K tb Γ (.lst [])) (pa : Pl n (.lst ds)) (hn : n ≤ 64) (h1 : 1 ≤ n) : EvX W K (tOp (rNeD K) ta tb) Γ (.bl (!ds.isEmpty)) := by
  refine EvX.to (v_neD ha hb pa ?_ hn) ?_
  · cases n with
    | zero => omega
    | succ n => simp [Pl, Pls]
  · cases ds with
    | nil => rfl
    | cons d ds => rfl
/-- an expression as a statement -/
theorem q_dropx (h : EvX W K te Γ d) (S : S4 W K G1 G0 H0 Γ O σ G H) (k : ∀ G2 H2, S4 W K G1 G0 H0 Γ O σ G2 H2 → tz D σ H2) : tSeq (tDrop te) tz D σ H :=
  h σ G H S.env S.ok _ fun v e G2 H2 s p r => k G2 H2 (S.step s)
end
end Ly

set_option maxHeartbeats 4000000
/-! # a, *b of a list; stars in a tuple; None in a list; powers, abs, min and max of a list -/
namespace Ly
open PySem L2 PySem.Spec PyProof.Rows
section
variable {prog : Program} {w : World} {A : Around} {E : Value → Shared → Prop} {s : Shared}
theorem star_itemsL {l : Addr} {items : Array Value} {n i : Nat} {Q : List Value → Shared → Prop} (hl : s.heap.IsList l items) (hnd : A.handled = none) (hi : i < n) (hn : n ≤ items.size + 1) (hz : items.size ≤ 16384)
    (q : ∀ (h' : Heap) (tk : Nat), (∀ b o, s.heap.get? b = some o → h'.get? b = some o) → Q (items.toList.take i ++ [.ref h'.objs.size] ++ (items.toList.drop i).drop (items.size + 1 - n)) { s with heap := h'.push { cls := .type "list", data := .seq ((items.toList.drop i).take (items.size + 1 - n)).toArray }, toks := tk }) : wpAny (model prog w) A (unpackItems (.ref l) n (some i)) Q E s := by
  have nel : l ≠ s.heap.objs.size := by
    obtain ⟨o, ho, _⟩ := hl
    exact Nat.ne_of_lt (Heap.lt_size ho)
  unfold unpackItems
  apply wpAny_bind
  unfold notIterableAtAll
  refine wpAny_bind (wpAny_specialOf hl.typeIs PySem.F.slot_list_iter.lookup ?_)
  apply wpAny_pure
  rw [if_neg Bool.false_ne_true]
  apply wpAny_bind
  apply wpAny_holding
  refine wpAny_pyIter_list hl ?_
  refine wpAny_bind (wpAny_holding (PySem.W.kun_draw nel i 0 _ _ ⟨_, Heap.get?_push_size _ rfl, rfl, rfl⟩ (hl.push _) (by omega) fun ha ita sba => ?_))
  have tla : ha.IsList l items := (hl.push _).extBut sba.extBut nel
  rw [Nat.zero_add] at ita
  have itb := ita
  obtain ⟨oi, goi, _⟩ := itb
  have tlb := tla
  obtain ⟨ol, gol, _⟩ := tlb
  rw [List.drop_zero]
  have zf : (items.toList.take i).length = i := by rw [List.length_take, Array.length_toList]; omega
  rw [if_neg (show ¬ ((items.toList.take i).length < i) by rw [zf]; omega)]
  refine wpAny_bind (wpAny_holding (PySem.W.kun_collect (s := { s with heap := ha }) (T := "list_iterator") (.inr (.inr (.inl rfl))) (Walks.list (A := A.in1) hnd s.heap.objs.size l nel items) (fun j u st => st.1.typeIs) (k := i) (by omega) ⟨ita, tla⟩ (Heap.lt_size goi) (Heap.lt_size gol) (fun hb2 tk kk => ?_) (by rw [sizeLine_eq]; omega)))
  have zr : (items.toList.drop i).length = items.size - i := by rw [List.length_drop, Array.length_toList]
  have zm : (items.toList.drop i).length - (n - 1 - i) = items.size + 1 - n := by rw [zr]; omega
  change wpAny _ _ (if (items.toList.drop i).length < n - 1 - i then _ else _) _ _ _
  rw [if_neg (by rw [zr]; omega)]
  change wpAny _ _ (newList ((items.toList.drop i).take ((items.toList.drop i).length - (n - 1 - i))) >>= fun d => pure (items.toList.take i ++ [d] ++ (items.toList.drop i).drop ((items.toList.drop i).length - (n - 1 - i)))) _ _ _
  rw [zm]
  refine wpAny_bind (wpAny_newList (s := { s with heap := hb2, toks := tk }) (wpAny_pure (q hb2 tk fun b o e => ?_)) (by rw [List.length_take, zr, sizeLine_eq]; omega))
  have hb : b ≠ s.heap.objs.size := Nat.ne_of_lt (Heap.lt_size e)
  exact kk b o hb (sba.extBut b o hb (Heap.get?_push_of_some _ e))
end
section
variable {X : Cx} {pos : Pos}
/-- (a, .., *b, ..) = a list -/
def gLstS (K : PySem.W.Frag) (n i : Nat) (t : TGs) : TG := fun v σ H Q => ∃ a xs, v = .ref a ∧ SqL K H a xs ∧ n ≤ xs.length + 1 ∧ xs.length ≤ 16384 ∧
  ∀ p, H p = none → t (xs.take i ++ [.ref p] ++ (xs.drop i).drop (xs.length + 1 - n)) σ (upd H p (.lst ((xs.drop i).take (xs.length + 1 - n)))) Q
theorem pg_lstS {es : List Expr} {k : Nat} {t : TGs} {n i : Nat} (hc : X.calm = true) (h : PGs X es t)
    (hn : (assignEach es X.env).length = n := by rfl) (hst : (assignEach es X.env).findIdx? (·.1) = some i := by rfl) (hi : i < n := by decide) : PG X (.Tuple es k pos) (gLstS X.K n i t) := by
  refine ⟨fun pp s σ H v u Q I r hx0 => ?_⟩
  obtain ⟨a, xs, e1, hq, hl, hz, hx0⟩ := hx0
  subst e1
  cases r
  obtain ⟨its, rv, ht, _⟩ := I.list hq
  have el := rv.length
  rw [assign_Tuple]
  refine wpAny_bind (wpAny_standAt ?_)
  unfold unpack
  rw [hn, hst]
  refine wpAny_bind (wpAny_holding (star_itemsL ht.isList (I.ok.hd hc) hi (by rw [List.size_toArray]; omega) (by rw [List.size_toArray]; omega) fun h' tk hx => ?_))
  have I1 : Inv X pp σ H { s with heap := h', toks := tk } := I.kept (t' := tk) hx
  have rm : Vals ((xs.drop i).take (xs.length + 1 - n)) ((its.drop i).take (its.length + 1 - n)) := by
    rw [el]
    exact (rv.drop i).take _
  have I2 : Inv X pp σ (upd H h'.objs.size (.lst ((xs.drop i).take (xs.length + 1 - n)))) { s with heap := h'.push { cls := .type "list", data := .seq ((its.drop i).take (its.length + 1 - n)).toArray }, toks := tk } :=
    I1.lnew (t' := tk) rm (by rw [List.length_take, List.length_drop, sizeLine_eq]; omega)
  have f : H h'.objs.size = none := I1.fresh
  have q := h.run pp _ σ _ _ (its.take i ++ [Value.ref h'.objs.size] ++ (its.drop i).drop (its.length + 1 - n)) Q I2 (((rv.take i).append (.cons (show RelV (.ref h'.objs.size) (.ref h'.objs.size) from rfl) .nil)).append (by rw [el]; exact (rv.drop i).drop _)) (hx0 _ f)
  simpa using q
end
section
variable {W : Wd} {K : PySem.W.Frag} {Γ : List (Option Dat)} {ta tb tc te tl tv tn : TE} {tt tu : TT} {tA : TA} {P R S : Dat → Prop} {d a b : Dat} {G1 G0 H0 G H G2 H2 : Hp} {O : List (Addr × List Dat)} {σ : L2.St} {D : Ends} {tz ts tw : TS}
/-- a, *b = a list -/
theorem g_lstS1 {i j : Nat} {x : Dat} {ds : List Dat} (h : EvX W K te Γ (.lst (x :: ds))) (hz : ds.length ≤ 1000) (S : S4 W K G1 G0 H0 Γ O σ G H) (k : ∀ σ2 G2 H2, S4 W K G1 G0 H0 ((Γ.set i (some x)).set j (some (.lst ds))) O σ2 G2 H2 → D.nx σ2 H2) :
    tAsg te (gLstS K 2 1 (gCons (gName i) (gCons (gName j) gNil))) D σ H := h σ G H S.env S.ok _ fun v e G2 H2 s ee r => by
  subst ee
  have S2 := S.step s
  obtain ⟨a, xs, rfl, hs, rs⟩ := r.lst_inv
  cases rs with
  | @cons vx zs _ _ rx rs =>
    have hl := rs.length
    refine ⟨a, _, rfl, ex_l S2.ok.ex hs, by simp, by simp; omega, fun p hp => ?_⟩
    have e1 : (vx :: zs).length + 1 - 2 = zs.length := by simp
    rw [e1]
    have e2 : List.take zs.length (List.drop 1 (vx :: zs)) = zs := by simp
    have e3 : List.drop zs.length (List.drop 1 (vx :: zs)) = [] := by simp
    rw [e2, e3]
    have st := Stp.new S2.ok (o := .lst zs) hp
    have S3 := S2.step st
    have rl : Rep K (upd G2 p (.lst zs)) (.ref p) (.lst ds) := .lst (l_of upd_same) (rs.mono st.gg)
    refine ⟨vx, [.ref p], rfl, .ref p, [], rfl, rfl, ?_⟩
    exact k _ _ _ ((S3.set (rx.mono st.gg)).set rl)
theorem q_lstS1 {i j : Nat} {x : Dat} {ds : List Dat} (h : EvX W K te Γ (.lst (x :: ds))) (hz : ds.length ≤ 1000) (S : S4 W K G1 G0 H0 Γ O σ G H) (k : ∀ σ2 G2 H2, S4 W K G1 G0 H0 ((Γ.set i (some x)).set j (some (.lst ds))) O σ2 G2 H2 → tz D σ2 H2) :
    tSeq (tAsg te (gLstS K 2 1 (gCons (gName i) (gCons (gName j) gNil)))) tz D σ H := g_lstS1 (D := { D with nx := tz D }) h hz S k
/-- *x among the parts of a tuple -/
theorem a_starT {us ds : List Dat} (h : EvX W K te Γ (.tup us)) (h2 : EvAX W K tA Γ ds) : EvAX W K (StX.tStar K te tA) Γ (us ++ ds) := fun σ G H n k Q q =>
  h σ G H n k _ fun v d G2 H2 s e r => by
    subst e
    obtain ⟨a, xs, rfl, hs, rs⟩ := r.tup_inv
    have k2 := s.ok k
    refine ⟨a, xs, rfl, .inl (ex_t k2.ex hs), ?_⟩
    exact h2 σ G2 H2 (n.mono s.gg) k2 _ fun ys ds' G3 H3 s3 e r3 => by
      subst e
      exact q _ _ G3 H3 (s.trans s3) rfl ((rs.mono s3.gg).append r3)
theorem v_pow {i j : Int} (ha : EvX W K ta Γ (.int i)) (hb : EvX W K tb Γ (.int j)) (hc : CPow i j) : EvX W K (tOp (rI CPow fun i j => .int (i ^ j.toNat)) ta tb) Γ (.int (i ^ j.toNat)) := v_opx ha hb (rv_I (g := fun i j => .int (i ^ j.toNat)) (fun _ => .int _) hc)
abbrev rAbs : List V → Hp → VK → Prop := fun xs H Q => ∃ i, xs = [.int i] ∧ Q (.int (if i < 0 then -i else i)) H
theorem v_abs {i : Int} (h : EvX W K ta Γ (.int i)) : EvX W K (tCB rAbs (tCons ta tNil)) Γ (.int (if i < 0 then -i else i)) := v_cbx (a_consx h a_nil) fun G H xs k r Q q => by
  cases r with
  | cons r r0 =>
    cases r0
    cases r
    exact ⟨i, rfl, q.here k (.int _) rfl⟩
abbrev rMax2 : List V → Hp → VK → Prop := fun xs H Q => ∃ i j, xs = [.int i, .int j] ∧ Q (.int (if j > i then j else i)) H
theorem v_max2 {i j : Int} (ha : EvX W K ta Γ (.int i)) (hb : EvX W K tb Γ (.int j)) : EvX W K (tCB rMax2 (tCons ta (tCons tb tNil))) Γ (.int (if j > i then j else i)) := v_cbx (a_consx ha (a_consx hb a_nil)) fun G H xs k r Q q => by
  cases r with
  | cons r1 r =>
    cases r with
    | cons r2 r =>
      cases r
      cases r1
      cases r2
      exact ⟨i, j, rfl, q.here k (.int _) rfl⟩
/-- None or an int, as data -/
def oiD : Option Int → Dat
  | none => .non
  | some i => .int i
def oiV : Option Int → V
  | none => .non
  | some i => .int i
theorem oi_rep {G : Hp} {v : V} {o : Option Int} (r : Rep K G v (oiD o)) : v = oiV o := by
  cases o <;> (cases r; rfl)
theorem oi_reps {G : Hp} : ∀ {vs : List V} {os : List (Option Int)}, Reps K G vs (os.map oiD) → vs = os.map oiV
  | [], [], _ => rfl
  | [], _ :: _, h => nomatch h
  | _ :: _, [], h => nomatch h
  | v :: vs, o :: os, h => by
    cases h with
    | cons r rs =>
      rw [oi_rep r, oi_reps rs]
      rfl
theorem inV_oi : ∀ os : List (Option Int), inV .non (os.map oiV) = decide (none ∈ os)
  | [] => rfl
  | none :: os => by simp [inV, oiV, eqV]
  | some i :: os => by
    have h := inV_oi os
    unfold inV at h ⊢
    rw [List.map_cons, List.any_cons, h]
    have e : eqV (oiV (some i)) V.non = false := rfl
    rw [e]
    simp
theorem inV_str (z : Str) : ∀ ss : List Str, inV (.str z) (ss.map V.str) = decide (z ∈ ss)
  | [] => rfl
  | y :: ss => by
    have h := inV_str z ss
    unfold inV at h ⊢
    rw [List.map_cons, List.any_cons, h]
    have e : eqV (V.str y) (V.str z) = decide (y = z) := by
      show (y == z) = decide (y = z)
      by_cases c : y = z <;> simp [c]
    rw [e]
    by_cases c : y = z
    · subst c
      simp
    · have c2 : ¬ z = y := fun w => c w.symm
      simp [c, c2]
/-- None in a list of such -/
theorem v_nonIn {os : List (Option Int)} (ha : EvX W K ta Γ .non) (hb : EvX W K tb Γ (.lst (os.map oiD))) : EvX W K (tOp (rIn K false) ta tb) Γ (.bl (decide (none ∈ os))) := v_opx ha hb fun G H x y k rx ry Q q => by
  cases rx
  obtain ⟨a, xs, rfl, hs, r⟩ := ry.lst_inv
  have ex := oi_reps r
  subst ex
  refine ⟨a, _, rfl, .inl (ex_l k.ex hs), rfl, ?_, ?_⟩
  · rw [List.all_map, List.all_eq_true]
    intro o _
    cases o <;> rfl
  · show Q (.bl (inV .non (os.map oiV))) H
    rw [inV_oi]
    exact q.here k (.bl _) rfl
/-- a text in a tuple of texts -/
theorem v_strIn {z : Str} {ss : List Str} (ha : EvX W K ta Γ (.str z)) (hb : EvX W K tb Γ (.tup (ss.map Dat.str))) : EvX W K (tOp (rIn K false) ta tb) Γ (.bl (decide (z ∈ ss))) := v_opx ha hb fun G H x y k rx ry Q q => by
  cases rx
  obtain ⟨a, xs, rfl, hs, r⟩ := ry.tup_inv
  have ex : ∀ {vs : List V} {ss : List Str}, Reps K G vs (ss.map Dat.str) → vs = ss.map V.str := fun {vs ss} h => by
    induction ss generalizing vs with
    | nil => cases h; rfl
    | cons z ss ih =>
      cases h with
      | cons r rs =>
        cases r
        rw [ih rs]
        rfl
  have ex := ex r
  subst ex
  refine ⟨a, _, rfl, .inr (ex_t k.ex hs), rfl, ?_, ?_⟩
  · rw [List.all_map, List.all_eq_true]
    intro o _
    rfl
  · show Q (.bl (inV (.str z) (ss.map V.str))) H
    rw [inV_str]
    exact q.here k (.bl _) rfl
/-- min, max of a list of ints -/
theorem v_minL {ns : List Int} {P : Int → Prop} (h : EvX W K ta Γ (.lst (dI ns))) (hn : 0 < ns.length) (hp : ∀ m, m ∈ ns → (∀ y, y ∈ ns → m ≤ y) → P m) : Ev W K (tCB (rMin K) (tCons ta tNil)) Γ fun d => ∃ m, d = .int m ∧ P m := v_cbx (a_consx h a_nil) fun G H xs k r Q q => by
  cases r with
  | cons r r0 =>
    cases r0
    obtain ⟨a, xs, rfl, hs, r⟩ := r.lst_inv
    have ex := r.ints
    subst ex
    exact ⟨a, ns, rfl, ex_l k.ex hs, hn, fun m h1 h2 => q.here k (.int m) ⟨m, rfl, hp m h1 h2⟩⟩
theorem v_maxL {ns : List Int} {P : Int → Prop} (h : EvX W K ta Γ (.lst (dI ns))) (hn : 0 < ns.length) (hp : ∀ m, m ∈ ns → (∀ y, y ∈ ns → y ≤ m) → P m) : Ev W K (tCB (rMax K) (tCons ta tNil)) Γ fun d => ∃ m, d = .int m ∧ P m := v_cbx (a_consx h a_nil) fun G H xs k r Q q => by
  cases r with
  | cons r r0 =>
    cases r0
    obtain ⟨a, xs, rfl, hs, r⟩ := r.lst_inv
    have ex := r.ints
    subst ex
    exact ⟨a, ns, rfl, ex_l k.ex hs, hn, fun m h1 h2 => q.here k (.int m) ⟨m, rfl, hp m h1 h2⟩⟩
end
end Ly

set_option maxHeartbeats 4000000
/-! # an object in the making is looked at; a dict of the body's own; look-ups in a known dict -/
namespace Ly
open PySem L2 PySem.Spec PyProof.Rows
/-! ## data without objects -/
mutual
def NO : Dat → Prop
  | .non => True
  | .bl _ => True
  | .int _ => True
  | .str _ => True
  | .adr _ => True
  | .tup ds => NOs ds
  | .lst ds => NOs ds
  | .obj _ _ => False
  | .dct es => NOd es
  | .dcs es => NOk es
def NOs : List Dat → Prop
  | [] => True
  | d :: ds => NO d ∧ NOs ds
def NOd : List (List Key × Dat) → Prop
  | [] => True
  | (_, d) :: ds => NO d ∧ NOd ds
def NOk : List (Key × Dat) → Prop
  | [] => True
  | (_, d) :: ds => NO d ∧ NOk ds
end
section
variable {K : PySem.W.Frag} {G : Hp} {x C dx : Addr} {fs : List (Str × V)}
theorem sqt_hid {a : Addr} {xs : List V} (hl : G x = some (.ins C dx fs)) (h : SqT K G a xs) : SqT K (del G x) a xs := by
  rcases h with (h | ⟨o, h⟩) | h
  · refine .inl (.inl ?_)
    rw [del_ne (ne_of h hl (by intro z; cases z))]
    exact h
  · refine .inl (.inr ⟨o, ?_⟩)
    rw [del_ne (ne_of h hl (by intro z; cases z))]
    exact h
  · exact .inr h
theorem sql_hid {a : Addr} {xs : List V} (hl : G x = some (.ins C dx fs)) (h : SqL K G a xs) : SqL K (del G x) a xs := by
  rcases h with (h | ⟨o, h⟩) | h
  · refine .inl (.inl ?_)
    rw [del_ne (ne_of h hl (by intro z; cases z))]
    exact h
  · refine .inl (.inr ⟨o, ?_⟩)
    rw [del_ne (ne_of h hl (by intro z; cases z))]
    exact h
  · exact .inr h
mutual
theorem Rep.hide (hl : G x = some (.ins C dx fs)) : ∀ {v : V} {d : Dat}, NO d → Rep K G v d → Rep K (del G x) v d
  | _, _, _, .non => .non
  | _, _, _, .bl b => .bl b
  | _, _, _, .int i => .int i
  | _, _, _, .str x => .str x
  | _, _, _, .adr a => .adr a
  | _, _, n, .tup h r => by
    rw [NO] at n
    exact .tup (sqt_hid hl h) (Reps.hide hl n r)
  | _, _, n, .lst h r => by
    rw [NO] at n
    exact .lst (sql_hid hl h) (Reps.hide hl n r)
  | _, _, n, .obj h r => by
    rw [NO] at n
    exact n.elim
  | _, _, n, .dct h r => by
    rw [NO] at n
    refine .dct (G := del G x) (by rw [del_ne (ne_of h hl (by intro z; cases z))]; exact h) (Dcts.hide hl n r)
  | _, _, n, .dcs h r => by
    rw [NO] at n
    refine .dcs (G := del G x) (by rw [del_ne (ne_of h hl (by intro z; cases z))]; exact h) (Dcks.hide hl n r)
theorem Reps.hide (hl : G x = some (.ins C dx fs)) : ∀ {v : List V} {d : List Dat}, NOs d → Reps K G v d → Reps K (del G x) v d
  | _, _, _, .nil => .nil
  | _, _, n, .cons h r => by
    rw [NOs] at n
    exact .cons (Rep.hide hl n.1 h) (Reps.hide hl n.2 r)
theorem Dcts.hide (hl : G x = some (.ins C dx fs)) : ∀ {v : List (List Key × V)} {d : List (List Key × Dat)}, NOd d → Dcts K G v d → Dcts K (del G x) v d
  | _, _, _, .nil => .nil
  | _, _, n, .cons h r => by
    rw [NOd] at n
    exact .cons (Rep.hide hl n.1 h) (Dcts.hide hl n.2 r)
theorem Dcks.hide (hl : G x = some (.ins C dx fs)) : ∀ {v : List (Key × V)} {d : List (Key × Dat)}, NOk d → Dcks K G v d → Dcks K (del G x) v d
  | _, _, _, .nil => .nil
  | _, _, n, .cons h r => by
    rw [NOk] at n
    exact .cons (Rep.hide hl n.1 h) (Dcks.hide hl n.2 r)
end
theorem NOs.ints : ∀ (ns : List Int), NOs (ns.map Dat.int)
  | [] => by simp [NOs]
  | n :: ns => by
    rw [List.map_cons, NOs]
    exact ⟨by simp [NO], NOs.ints ns⟩
theorem NOs.rows : ∀ (rs : List (List Int)), NOs (rs.map rowD)
  | [] => by simp [NOs]
  | r :: rs => by
    rw [List.map_cons, NOs]
    exact ⟨by rw [NO]; exact NOs.ints r, NOs.rows rs⟩
theorem NOd.put {k : List Key} {d : Dat} (hd : NO d) : ∀ {es : List (List Key × Dat)}, NOd es → NOd (putD es k d) := by
  have app : ∀ {es : List (List Key × Dat)}, NOd es → NOd (es ++ [(k, d)]) := by
    intro es
    induction es with
    | nil => intro _; simp [NOd, hd]
    | cons e es ih =>
      intro h
      obtain ⟨a, b⟩ := e
      rw [NOd] at h
      rw [List.cons_append, NOd]
      exact ⟨h.1, ih h.2⟩
  have mp : ∀ {es : List (List Key × Dat)}, NOd es → NOd (es.map fun e => if e.1 = k then (e.1, d) else e) := by
    intro es
    induction es with
    | nil => intro h; exact h
    | cons e es ih =>
      intro h
      obtain ⟨a, b⟩ := e
      rw [NOd] at h
      rw [List.map_cons]
      by_cases q : a = k
      · rw [if_pos q, NOd]
        exact ⟨hd, ih h.2⟩
      · rw [if_neg q, NOd]
        exact ⟨h.1, ih h.2⟩
  intro es h
  unfold putD
  split
  · exact mp h
  · exact app h
end
/-! ## looking at an object in the making -/
section
variable {W : Wd} {K : PySem.W.Frag} {Γ : List (Option Dat)} {ta tb tc te tl tv tn : TE} {tt tu : TT} {tA : TA} {P R : Dat → Prop} {d a b : Dat} {G1 G0 H0 G H G2 H2 : Hp} {O : List (Addr × List Dat)} {σ : L2.St} {D : Ends} {tz ts tw : TS} {x C dx : Addr} {fs : List (Str × V)} {fsd : List (Str × Dat)} {f : Str} {i : Nat}
theorem Stp.of_some {G H G2 H2 : Hp} {a : Addr} {o : HO} (s : Stp Wd0 G H G2 H2) (h : H a = some o) : H2 a = some o := s.hh a o (fun z => z) h
theorem S4.lookI (hi : Γ[i]? = some (some (.adr x))) (hf : Flds K G fs fsd) (S : S4 (WI x C dx fs) K G1 G0 H0 Γ [] σ G H) :
    ∃ G', Env K G' σ (Γ.set i (some (.obj C fsd))) ∧ Ok Wd0 G' H ∧ ∀ G2 H2, Stp Wd0 G' H G2 H2 → S4 (WI x C dx fs) K G1 G0 H0 Γ [] σ (del G2 x) H2 ∧ Ex G (del G2 x) ∧ G2 x = some (.ins C dx fs) := by
  have gx : G x = none := S.ok.off x rfl
  have hx : H x = some (.ins C dx fs) := S.ok.inv
  have gg : Ex G (upd G x (.ins C dx fs)) := Ex.new gx
  have eg : Ex (upd G x (.ins C dx fs)) H := fun a u e => by
    by_cases ea : a = x
    · subst ea
      rw [upd_same] at e
      rw [hx]
      exact e
    · rw [upd_ne ea] at e
      exact S.ok.ex a u e
  have env' : Env K (upd G x (.ins C dx fs)) σ (Γ.set i (some (.obj C fsd))) := by
    obtain ⟨v, e1, e2⟩ := S.env.at' i _ hi
    have e3 := e2.adr_inv
    subst e3
    have q : Env K (upd G x (.ins C dx fs)) (σ.set i (some (.ref x))) (Γ.set i (some (.obj C fsd))) := (S.env.mono gg).set (.obj upd_same (hf.mono gg))
    have e4 : σ.set i (some (.ref x)) = σ := by
      apply List.ext_getElem?
      intro j
      by_cases hj : i = j
      · subst hj
        have hlt : i < σ.length := by
          rcases Nat.lt_or_ge i σ.length with q | q
          · exact q
          · rw [List.getElem?_eq_none q] at e1
            cases e1
        rw [List.getElem?_set_self hlt, e1]
      · rw [List.getElem?_set_ne hj]
    rw [e4] at q
    exact q
  refine ⟨_, env', ⟨eg, trivial, fun _ h => h.elim⟩, fun G2 H2 s => ?_⟩
  have g2 : G2 x = some (.ins C dx fs) := s.gg _ _ upd_same
  have ex2 : Ex G (del G2 x) := fun a u e => by
    rw [del_ne (ne_of_none e gx)]
    exact s.gg a u (gg a u e)
  have st : Stp (WI x C dx fs) G H (del G2 x) H2 := ⟨ex2, fun a u e => by
      by_cases ea : a = x
      · subst ea
        rw [del_same] at e
        cases e
      · rw [del_ne ea] at e
        exact s.gh a u e, fun a u _ e => s.of_some e, fun a u e => by
      by_cases ea : a = x
      · subst ea
        rw [del_same] at e
        cases e
      · rw [del_ne ea] at e
        rcases s.nw a u e with q | q
        · rw [upd_ne ea] at q
          exact .inl q
        · exact .inr q, s.of_some hx⟩
  exact ⟨S.step st, ex2, g2⟩
/-- self.f = e, e looking at self -/
theorem g_fldI (hi : Γ[i]? = some (some (.adr x))) (hf : Flds K G fs fsd) (h : Ev Wd0 K tv (Γ.set i (some (.obj C fsd))) P) (hp : ∀ d, P d → NO d) (ho : EvX (WI x C dx fs) K ta Γ (.adr x)) (hc : Cls K C) (hn : NoAttr K C f) (hl : fs.length < 1000) (S : S4 (WI x C dx fs) K G1 G0 H0 Γ [] σ G H)
    (k : ∀ y d G2 H2, P d → Rep K G2 y d → Ex G G2 → S4 (WI x C dx (putF f y fs)) K G1 G0 H0 Γ [] σ G2 H2 → D.nx σ H2) : sFld K ta tv f D σ H := by
  obtain ⟨G', e, o, g⟩ := S.lookI hi hf
  refine h σ G' H e o _ fun y d G2 H2 s p r => ?_
  obtain ⟨S2, ex2, g2⟩ := g G2 H2 s
  have r := Rep.hide g2 (hp d p) r
  refine ho σ _ H2 S2.env S2.ok _ fun v e G3 H3 s3 ee r3 => ?_
  subst ee
  cases r3
  have S3 := S2.step s3
  have hx : H3 x = some (.ins C dx fs) := S3.ok.inv
  refine ⟨x, C, dx, fs, rfl, hx, hc, hn, hl, ?_⟩
  have gx : G3 x = none := S3.ok.off x rfl
  have eg : Ex G3 (upd H3 x (.ins C dx (putF f y fs))) := fun a u e => by
    rw [upd_ne (ne_of_none e gx)]
    exact S3.ok.ex a u e
  refine k y d G3 _ p (r.mono s3.gg) (ex2.trans s3.gg) ⟨S3.env, ⟨eg, upd_same, S3.ok.off⟩, ⟨S3.stp.gg, eg, fun a u hm e => ?_, S3.stp.nw, upd_same⟩, (fun _ _ hm => nomatch hm), List.nodup_nil, S3.fr⟩
  rw [upd_ne hm]
  exact S3.stp.hh a u hm e
theorem q_fldI (hi : Γ[i]? = some (some (.adr x))) (hf : Flds K G fs fsd) (h : Ev Wd0 K tv (Γ.set i (some (.obj C fsd))) P) (hp : ∀ d, P d → NO d) (ho : EvX (WI x C dx fs) K ta Γ (.adr x)) (hc : Cls K C) (hn : NoAttr K C f) (hl : fs.length < 1000) (S : S4 (WI x C dx fs) K G1 G0 H0 Γ [] σ G H)
    (k : ∀ y d G2 H2, P d → Rep K G2 y d → Ex G G2 → S4 (WI x C dx (putF f y fs)) K G1 G0 H0 Γ [] σ G2 H2 → tz D σ H2) : tSeq (sFld K ta tv f) tz D σ H := g_fldI (D := { D with nx := tz D }) hi hf h hp ho hc hn hl S k
/-- an if whose test looks at self -/
theorem g_ifI {P : Bool → Prop} {t1 t2 : TS} (hi : Γ[i]? = some (some (.adr x))) (hf : Flds K G fs fsd) (h : EvB Wd0 K tt (Γ.set i (some (.obj C fsd))) P) (S : S4 (WI x C dx fs) K G1 G0 H0 Γ [] σ G H)
    (k1 : P true → ∀ G2 H2, Ex G G2 → S4 (WI x C dx fs) K G1 G0 H0 Γ [] σ G2 H2 → t1 D σ H2) (k2 : P false → ∀ G2 H2, Ex G G2 → S4 (WI x C dx fs) K G1 G0 H0 Γ [] σ G2 H2 → t2 D σ H2) : tIfS tt t1 t2 D σ H := by
  obtain ⟨G', e, o, g⟩ := S.lookI hi hf
  refine h σ G' H e o _ fun b G2 H2 s p => ?_
  obtain ⟨S2, ex2, g2⟩ := g G2 H2 s
  cases b with
  | true =>
    show t1 D σ H2
    exact k1 p _ H2 ex2 S2
  | false =>
    show t2 D σ H2
    exact k2 p _ H2 ex2 S2
end
/-! ## a dict of the body's own -/
def WT (x : Addr) (vs : List (List Key × V)) : Wd where
  m := fun a => a = x
  I := fun H => H x = some (.dT vs)
  loc := fun h e => by rw [e x rfl]; exact h
  tr := fun h hm => by
    subst hm
    exact ⟨_, h⟩
section
variable {K : PySem.W.Frag} {Γ : List (Option Dat)} {ta tc te tl tv tn : TE} {tt tu : TT} {tA : TA} {P R : Dat → Prop} {d a b : Dat} {G1 G0 H0 G H G2 H2 : Hp} {O : List (Addr × List Dat)} {σ : L2.St} {D : Ends} {tz ts tw tb : TS} {x : Addr} {vs : List (List Key × V)} {es : List (List Key × Dat)} {i : Nat}
/-- d = {} -/
theorem q_newD (S : S4 Wd0 K G1 G0 H0 Γ [] σ G H) (k : ∀ x σ2 H2, H0 x = none → S4 (WT x []) K G1 G0 H0 (Γ.set i (some (.adr x))) [] σ2 G H2 → tz D σ2 H2) : tSeq (tAsg tDNewT (gName i)) tz D σ H := fun p hp => by
  have gp : G p = none := by
    cases e : G p with
    | none => rfl
    | some u =>
      rw [S.ok.ex p u e] at hp
      cases hp
  have h0 : H0 p = none := (back S.stp hp).1
  have S2 := S.set (i := i) (Rep.adr p)
  have eg : Ex G (upd H p (.dT [])) := fun a u e => by
    rw [upd_ne (ne_of_none e gp)]
    exact S.ok.ex a u e
  refine k p _ (upd H p (.dT [])) h0 ⟨S2.env, ⟨eg, upd_same, fun a ha => by rw [show a = p from ha]; exact gp⟩, ⟨S.stp.gg, eg, fun a u hm e => ?_, S.stp.nw, upd_same⟩, (fun _ _ hm => nomatch hm), List.nodup_nil, S2.fr⟩
  rw [upd_ne hm]
  exact S.stp.hh a u (fun z => z) e
/-- d[i, j] = v -/
theorem g_dput {ns : List Int} (hv : Ev (WT x vs) K tv Γ P) (hd : EvX (WT x vs) K ta Γ (.adr x)) (hk : EvAX (WT x vs) K tA Γ (ns.map Dat.int)) (hkl : ns.length ≤ 1000) (hl : vs.length < 100000) (S : S4 (WT x vs) K G1 G0 H0 Γ [] σ G H)
    (k : ∀ z d G2 H2, P d → Rep K G2 z d → Ex G G2 → S4 (WT x (putK vs (iK ns) z)) K G1 G0 H0 Γ [] σ G2 H2 → D.nx σ H2) : sDPut ta (tTup tA) tv D σ H :=
  hv σ G H S.env S.ok _ fun z d G2 H2 s p r => by
    have S2 := S.step s
    refine hd σ G2 H2 S2.env S2.ok _ fun y e G3 H3 s3 ee r3 => ?_
    subst ee
    cases r3
    have S3 := S2.step s3
    refine hk σ G3 H3 S3.env S3.ok _ fun ws ds G4 H4 s4 e4 r4 => ?_
    subst e4
    have ew := r4.ints
    subst ew
    have S4' := S3.step s4
    refine ⟨by rw [List.length_map]; exact sz_of (by omega), fun q hq => ?_⟩
    have st5 := Stp.new (W := WT x vs) (o := .tup (ns.map V.int)) S4'.ok hq
    have S5 := S4'.step st5
    have hx : upd H4 q (.tup (ns.map V.int)) x = some (.dT vs) := S5.ok.inv
    refine ⟨x, _, rfl, DPut.t hx (by rw [iK_V]; exact upd_same) (sz_lt hl), ?_⟩
    have gx : upd G4 q (.tup (ns.map V.int)) x = none := S5.ok.off x rfl
    have eg : Ex (upd G4 q (.tup (ns.map V.int))) (upd (upd H4 q (.tup (ns.map V.int))) x (.dT (putK vs (iK ns) z))) := fun a u e => by
      rw [upd_ne (ne_of_none e gx)]
      exact S5.ok.ex a u e
    refine k z d _ _ p (((r.mono s3.gg).mono s4.gg).mono st5.gg) (((s.gg.trans s3.gg).trans s4.gg).trans st5.gg) ⟨S5.env, ⟨eg, upd_same, S5.ok.off⟩, ⟨S5.stp.gg, eg, fun a u hm e => ?_, S5.stp.nw, upd_same⟩, (fun _ _ hm => nomatch hm), List.nodup_nil, S5.fr⟩
    rw [upd_ne hm]
    exact S5.stp.hh a u hm e
/-- return d -/
theorem g_retD (hi : Γ[i]? = some (some (.adr x))) (h0 : H0 x = none) (hf : Dcts K G vs es) (S : S4 (WT x vs) K G1 G0 H0 Γ [] σ G H) (k : Go Wd0 K G0 H0 (· = .dct es) D.rt) : tRet (tVar i) D σ H := by
  obtain ⟨v, e1, e2⟩ := S.env.at' i _ hi
  have e3 := e2.adr_inv
  subst e3
  have gx : G x = none := S.ok.off x rfl
  have hx : H x = some (.dT vs) := S.ok.inv
  have gg : Ex G (upd G x (.dT vs)) := Ex.new gx
  refine ⟨_, e1, k (.ref x) _ (upd G x (.dT vs)) H ⟨S.stp.gg.trans gg, fun a u e => ?_, fun a u _ e => ?_, fun a u e => ?_, trivial⟩ rfl (.dct upd_same (hf.mono gg))⟩
  · by_cases ea : a = x
    · subst ea
      rw [upd_same] at e
      rw [hx]
      exact e
    · rw [upd_ne ea] at e
      exact S.ok.ex a u e
  · exact S.stp.hh a u (fun z => by
      have z : a = x := z
      rw [z, h0] at e
      cases e) e
  · by_cases ea : a = x
    · subst ea
      exact .inr h0
    · rw [upd_ne ea] at e
      exact S.stp.nw a u e
/-- for a, b, .. in a tuple of rows: each turn may store into d -/
theorem q_forTD {us : List Dat} {rows : Dat → List Dat} {js : List Nat} (h : EvX (WT x vs) K tl Γ (.tup us)) (hu : ∀ d ∈ us, d = .tup (rows d) ∧ (rows d).length = js.length) (hf : Dcts K G vs es) (S : S4 (WT x vs) K G1 G0 H0 Γ [] σ G H)
    (I : Nat → List (Option Dat) → List (List Key × Dat) → Prop) (hI0 : I 0 Γ es)
    (hs : ∀ G1 (n : Nat) d vs' es' Γ' σ' G' H', us[n]? = some d → I n Γ' es' → Dcts K G' vs' es' → S4 (WT x vs') K G1 G0 H0 (setsG Γ' js (rows d)) [] σ' G' H' →
      tb { D with nx := fun σ H => ∃ vs es Γ G, I (n + 1) Γ es ∧ Dcts K G vs es ∧ S4 (WT x vs) K G1 G0 H0 Γ [] σ G H, ct := fun σ H => ∃ vs es Γ G, I (n + 1) Γ es ∧ Dcts K G vs es ∧ S4 (WT x vs) K G1 G0 H0 Γ [] σ G H, bk := tz D } σ' H')
    (hd : ∀ vs' es' Γ' σ' G' H', I us.length Γ' es' → Dcts K G' vs' es' → S4 (WT x vs') K G1 G0 H0 Γ' [] σ' G' H' → tz D σ' H') : tSeq (tFor (iTup K tl) (gTup K js.length (gNames js)) tb) tz D σ H :=
  h σ G H S.env S.ok _ fun v d G2 H2 s e r => by
    subst e
    obtain ⟨a, xs, rfl, hx, r⟩ := r.tup_inv
    have S2 := S.step s
    have hl := r.length
    refine ⟨a, rfl, ⟨xs, ex_t S2.ok.ex hx⟩, for_tup (fun n σ H => ∃ vs es Γ G, I n Γ es ∧ Dcts K G vs es ∧ S4 (WT x vs) K G2 G0 H0 Γ [] σ G H) ⟨vs, es, Γ, G2, hI0, hf.mono s.gg, S2.here⟩ (fun n σ' H' _ ⟨vs', es', Γ', G', _, _, S'⟩ => ex_t (S'.fr.trans S'.ok.ex) hx) (fun n y σ' H' hi ⟨vs', es', Γ', G', hI, hf', S'⟩ => ?_) (fun σ' H' ⟨vs', es', Γ', G', hI, hf', S'⟩ => hd vs' es' Γ' σ' G' H' (by rw [← hl]; exact hI) hf' (S'.base S2.fr))⟩
    obtain ⟨d, hd', rd⟩ := r.getV hi
    obtain ⟨e, hn⟩ := hu d (List.mem_of_getElem? hd')
    have rd := rd.mono S'.fr
    rw [e] at rd
    exact t_names rd hn rfl S' fun σ2 S3 => hs G2 n d vs' es' Γ' σ2 G' H' hd' hI hf' S3
end
/-! ## look-ups -/
section
variable {W : Wd} {K : PySem.W.Frag} {Γ : List (Option Dat)} {ta tb tc te tl tv tn : TE} {tt tu : TT} {tA : TA} {P R : Dat → Prop} {d : Dat} {G1 G0 H0 G H G2 H2 : Hp} {σ : L2.St}
/-- (i, j) not in d -/
theorem v_notInKT {es : List (List Key × Dat)} {ns : List Int} (hk : EvAX W K tA Γ (ns.map Dat.int)) (h : EvX W K ta Γ (.dct es)) (hl : ns.length ≤ 1000) : EvX W K (tDNotIn (tTup tA) ta) Γ (.bl (!(valD es (iK ns)).isSome)) := fun σ G H env k Q q =>
  hk σ G H env k _ fun ws ds G2 H2 s e r => by
    subst e
    have ew := r.ints
    subst ew
    have k2 := s.ok k
    refine ⟨by rw [List.length_map]; exact sz_of (by omega), fun p hp => ?_⟩
    have st := Stp.new (W := W) (o := .tup (ns.map V.int)) k2 hp
    have s2 := s.trans st
    have k3 := s2.ok k
    refine h σ _ _ (env.mono s2.gg) k3 _ fun v e G4 H4 s4 ee r4 => ?_
    subst ee
    cases r4 with
    | @dct a vs es hg rd =>
      have s5 := s2.trans s4
      have hb : H4 p = some (.tup ((iK ns).map kV)) := by
        rw [iK_V]
        exact s4.gh _ _ (s4.gg _ _ upd_same)
      refine ⟨a, valV vs (iK ns), rfl, DGet.t ((s5.ok k).ex _ _ hg) hb, ?_⟩
      rcases rd.val (k := iK ns) with ⟨z1, z2⟩ | ⟨v, d, z1, z2, z3⟩
      · rw [z1]
        exact q _ _ _ _ s5 (by rw [z2]; rfl) (.bl _)
      · rw [z1]
        exact q _ _ _ _ s5 (by rw [z2]; rfl) (.bl _)
/-- d[i, j] -/
theorem v_ixKT {es : List (List Key × Dat)} {ns : List Int} (h : EvX W K ta Γ (.dct es)) (hk : EvAX W K tA Γ (ns.map Dat.int)) (hl : ns.length ≤ 1000) (hv : valD es (iK ns) = some d) : EvX W K (tDGet ta (tTup tA)) Γ d := fun σ G H env k Q q =>
  h σ G H env k _ fun v e G2 H2 s ee r => by
    subst ee
    cases r with
    | @dct a vs es hg rd =>
      have k2 := s.ok k
      refine hk σ G2 H2 (env.mono s.gg) k2 _ fun ws ds G3 H3 s3 e3 r3 => ?_
      subst e3
      have ew := r3.ints
      subst ew
      have s13 := s.trans s3
      have k3 := s13.ok k
      refine ⟨by rw [List.length_map]; exact sz_of (by omega), fun p hp => ?_⟩
      have st := Stp.new (W := W) (o := .tup (ns.map V.int)) k3 hp
      have s14 := s13.trans st
      have hg4 : upd H3 p (.tup (ns.map V.int)) a = some (.dT vs) := by
        rw [upd_ne (ne_of_none (k3.ex _ _ (s3.gg _ _ hg)) hp)]
        exact k3.ex _ _ (s3.gg _ _ hg)
      rcases rd.val (k := iK ns) with ⟨z1, z2⟩ | ⟨v, d2, z1, z2, z3⟩
      · rw [hv] at z2
        cases z2
      · rw [hv] at z2
        cases z2
        exact ⟨a, v, rfl, z1 ▸ DGet.t hg4 (by rw [iK_V]; exact upd_same), q v _ _ _ s14 rfl ((z3.mono s3.gg).mono st.gg)⟩
theorem inV_ints (j : Int) : ∀ ns : List Int, inV (.int j) (ns.map V.int) = decide (j ∈ ns)
  | [] => rfl
  | n :: ns => by
    have ih := inV_ints j ns
    unfold inV at ih ⊢
    rw [List.map_cons, List.any_cons, ih]
    by_cases c : n = j
    · subst c
      simp [eqV]
    · have c2 : ¬ j = n := fun w => c w.symm
      simp [eqV, c, c2]
/-- an int in a tuple of ints -/
theorem v_intInT {j : Int} {ns : List Int} (ha : EvX W K ta Γ (.int j)) (hb : EvX W K tb Γ (.tup (ns.map Dat.int))) : EvX W K (tOp (rIn K false) ta tb) Γ (.bl (decide (j ∈ ns))) := v_opx ha hb fun G H x y k rx ry Q q => by
  cases rx
  obtain ⟨a, xs, rfl, hs, r⟩ := ry.tup_inv
  have ex := r.ints
  subst ex
  refine ⟨a, _, rfl, .inr (ex_t k.ex hs), rfl, ?_, ?_⟩
  · rw [List.all_map, List.all_eq_true]
    intro o _
    rfl
  · show Q (.bl (inV (.int j) (ns.map V.int))) H
    rw [inV_ints]
    exact q.here k (.bl _) rfl
end
end Ly

set_option maxHeartbeats 4000000
/-! # an __init__ whose fields are told by what they are; is not of truth values -/
namespace Ly
open PySem L2 PySem.Spec PyProof.Rows
/-- a field that is read within a comprehension -/
theorem pe_fldK {X : Cx} {K : PySem.W.Frag} {e : Expr} {f : Str} {pos : Pos} {ta : TE} (he : PE X e ta) (hb : attributeBase e f X.env (eval e X.env) = eval e X.env) (hK : X.K = K := by rfl) : PE X (.Attribute e f pos) (tFld K ta f) := hK ▸ pe_fld he hb
theorem units1 {k : Nat} {A : Around} (hr : Room k A) : A.units + 1 < cLine := by
  have := hr.units
  omega
section
variable {W : Wd} {K : PySem.W.Frag} {Γ : List (Option Dat)} {ta tb tc te tl tv tn : TE} {tt tu : TT} {tA : TA} {P R : Dat → Prop} {d : Dat} {G1 G0 H0 G H G2 H2 : Hp} {O : List (Addr × List Dat)} {σ : L2.St} {D : Ends} {tz ts tw : TS} {C CE : Addr}
abbrev InitP := List Dat → (List (Str × Dat) → Prop) → Prop
def spInitP (K : PySem.W.Frag) (C CE : Addr) (A : InitP) : Sp := fun vs H Q E => ∃ G x dx ds vs' F, vs = .ref x :: vs' ∧ Ok (WI x C dx []) G H ∧ Reps K G vs' ds ∧ A ds F ∧
  (∀ fsd, F fsd → ∀ G2 H2 fs, Stp (WI x C dx fs) G H G2 H2 → Flds K G2 fs fsd → Q .non H2)
theorem spInitP_len {A : InitP} {n : Nat} (h : ∀ ds F, A ds F → ds.length = n) : ∀ vs H Q E, spInitP K C CE A vs H Q E → vs.length = n + 1 := fun vs H Q E ⟨G, x, dx, ds, vs', r, e, _, r1, a, _⟩ => by rw [e, List.length_cons, r1.length, h ds r a]
theorem make_runP {A : InitP} {vs : List V} {ds : List Dat} {F : List (Str × Dat) → Prop} {Q : VK} {E : XK} (k : Ok W G H) (rr : Reps K G vs ds) (ha : A ds F) (q : Go W K G H (fun d => ∃ fsd, d = .obj C fsd ∧ F fsd) Q) :
    ∀ x dx, H x = none → H dx = none → dx ≠ x → spInitP K C CE A (.ref x :: (vs ++ [])) (upd (upd H dx (.own x)) x (.ins C dx [])) (fun v H2 => v = .non ∧ Q (.ref x) H2) E := fun x dx hx hdx hne => by
  rw [List.append_nil]
  have gx : G x = none := by
    cases e : G x with
    | none => rfl
    | some u =>
      rw [k.ex x u e] at hx
      cases hx
  have eH : ∀ a u, H a = some u → (upd (upd H dx (.own x)) x (.ins C dx [])) a = some u := fun a u e => by
    rw [upd_ne (ne_of_none e hx), upd_ne (ne_of_none e hdx)]
    exact e
  refine ⟨G, x, dx, ds, vs, F, rfl, ⟨fun a u e => eH a u (k.ex a u e), upd_same, fun a ha => by rw [ha]; exact gx⟩, rr, ha, fun fsd er G2 H2 fs s fl => ⟨rfl, ?_⟩⟩
  have g2x : G2 x = none := by
    cases e : G2 x with
    | none => rfl
    | some u =>
      rcases s.nw x u e with z | z
      · rw [gx] at z
        cases z
      · rw [upd_same] at z
        cases z
  have gg : Ex G2 (upd G2 x (.ins C dx fs)) := Ex.new g2x
  have hx2 : H2 x = some (.ins C dx fs) := s.inv
  have keep : ∀ a u, H a = some u → H2 a = some u := fun a u e => s.hh a u (fun z => by
    have z : a = x := z
    rw [z, hx] at e
    cases e) (eH a u e)
  refine q _ (.obj C fsd) (upd G2 x (.ins C dx fs)) H2 ⟨s.gg.trans gg, fun a u e => ?_, fun a u _ e => keep a u e, fun a u e => ?_, ?_⟩ ⟨fsd, rfl, er⟩ (.obj upd_same (fl.mono gg))
  · by_cases q : a = x
    · subst q
      rw [upd_same] at e
      rw [hx2]
      exact e
    · rw [upd_ne q] at e
      exact s.gh a u e
  · by_cases q : a = x
    · subst q
      exact .inr hx
    · rw [upd_ne q] at e
      rcases s.nw a u e with z | z
      · exact .inl z
      · right
        cases h : H a with
        | none => rfl
        | some w =>
          rw [eH a w h] at z
          cases z
  · exact W.loc k.inv fun a ha => by
      obtain ⟨u, hu⟩ := W.tr k.inv ha
      rw [hu]
      exact keep a u hu
theorem v_makeP {A : InitP} {ds : List Dat} {F : List (Str × Dat) → Prop} {E : XK} (h : EvAX W K tA Γ ds) (ha : A ds F) : Ev W K (tMake C (spInitP K C CE A) [] E tA) Γ fun d => ∃ fsd, d = .obj C fsd ∧ F fsd := fun σ G H n k Q q =>
  h σ G H n k _ fun vs ds' G2 H2 s e r => by
    subst e
    exact make_runP (s.ok k) r ha (q.step s)
theorem v_notB {a b : Bool} (ha : EvX W K ta Γ (.bl a)) (hb : EvX W K tb Γ (.bl b)) : EvX W K (tOp rNotB ta tb) Γ (.bl (!decide (a = b))) := v_opx ha hb fun G H x y k rx ry Q q => by
  cases rx
  cases ry
  exact ⟨a, b, rfl, rfl, q.here k (.bl _) rfl⟩
theorem atI_last {α : Type} {xs : List α} (h : 0 < xs.length) : atI xs (-1) = xs[xs.length - 1]? := by
  unfold atI ixN
  rw [if_neg (by omega), if_pos (by omega)]
  show xs[((-1 : Int) + (xs.length : Int)).toNat]? = _
  congr 1
  omega
theorem v_lastT {ds : List Dat} (ha : EvX W K ta Γ (.tup ds)) (hb : EvX W K tb Γ (.int (-1))) (hn : 0 < ds.length) (h : ds[ds.length - 1]? = some d) : EvX W K (tOp (rIxT K) ta tb) Γ d := v_opx ha hb fun G H x y k rx ry Q q => by
  cases ry
  obtain ⟨a, xs, rfl, hs, r⟩ := rx.tup_inv
  obtain ⟨v, h1, h2⟩ := r.get h
  have hl := r.length
  exact ⟨a, xs, -1, v, rfl, rfl, ex_t k.ex hs, by rw [atI_last (by omega), hl]; exact h1, q.here k h2 rfl⟩
/-- a tuple of bools told by each: the ints of a tuple -/
theorem n_lcTB {j : Nat} {ns : List Int} {p : Int → Bool} (h : EvX W K tl Γ (.tup (ns.map Dat.int))) (hl : ns.length < 100000) (he : ∀ x, x ∈ ns → EvX W K te ((wipeG Γ [j]).set j (some (.int x))) (.bl (p x))) :
    EvN W K (tLc (iTup K tl) (gName j) tYes te [j]) Γ (· = ns.map fun x => .bl (p x)) := n_lcMT (f := Dat.int) (g := fun x => .bl (p x)) h hl he
end
end Ly

set_option maxHeartbeats 4000000
/-! # an __init__ that may raise and whose fields are told by what they are; d.get(k, None) -/
namespace Ly
open PySem L2 PySem.Spec PyProof.Rows
section
variable {W : Wd} {K : PySem.W.Frag} {Γ : List (Option Dat)} {ta tb tc te tl tv tn : TE} {tt tu : TT} {tA : TA} {P R : Dat → Prop} {d : Dat} {G1 G0 H0 G H G2 H2 : Hp} {O : List (Addr × List Dat)} {σ : L2.St} {D : Ends} {tz ts tw : TS} {C CE : Addr}
abbrev InitQ := List Dat → Bool → (List (Str × Dat) → Prop) → Prop
def spInitQ (K : PySem.W.Frag) (C CE : Addr) (A : InitQ) : Sp := fun vs H Q E => ∃ G x dx ds vs' b F, vs = .ref x :: vs' ∧ Ok (WI x C dx []) G H ∧ Reps K G vs' ds ∧ A ds b F ∧ (b = false → ∀ H2, E (.ref CE) none H2) ∧
  (b = true → ∀ fsd, F fsd → ∀ G2 H2 fs, Stp (WI x C dx fs) G H G2 H2 → Flds K G2 fs fsd → Q .non H2)
theorem spInitQ_len {A : InitQ} {n : Nat} (h : ∀ ds b F, A ds b F → ds.length = n) : ∀ vs H Q E, spInitQ K C CE A vs H Q E → vs.length = n + 1 := fun vs H Q E ⟨G, x, dx, ds, vs', b, r, e, _, r1, a, _⟩ => by rw [e, List.length_cons, r1.length, h ds b r a]
theorem make_runQ {A : InitQ} {vs : List V} {ds : List Dat} {b : Bool} {F : List (Str × Dat) → Prop} {Q : VK} {E : XK} (k : Ok W G H) (rr : Reps K G vs ds) (ha : A ds b F) (hE : b = false → ∀ H2, E (.ref CE) none H2) (q : b = true → Go W K G H (fun d => ∃ fsd, d = .obj C fsd ∧ F fsd) Q) :
    ∀ x dx, H x = none → H dx = none → dx ≠ x → spInitQ K C CE A (.ref x :: (vs ++ [])) (upd (upd H dx (.own x)) x (.ins C dx [])) (fun v H2 => v = .non ∧ Q (.ref x) H2) E := fun x dx hx hdx hne => by
  cases b with
  | false =>
    rw [List.append_nil]
    have gx : G x = none := by
      cases e : G x with
      | none => rfl
      | some u =>
        rw [k.ex x u e] at hx
        cases hx
    have eH : ∀ a u, H a = some u → (upd (upd H dx (.own x)) x (.ins C dx [])) a = some u := fun a u e => by
      rw [upd_ne (ne_of_none e hx), upd_ne (ne_of_none e hdx)]
      exact e
    exact ⟨G, x, dx, ds, vs, false, F, rfl, ⟨fun a u e => eH a u (k.ex a u e), upd_same, fun a ha => by rw [ha]; exact gx⟩, rr, ha, hE, fun e => nomatch e⟩
  | true =>
    obtain ⟨G', x', dx', ds', vs', F', e1, e2, e3, e4, e5⟩ := make_runP (C := C) (CE := CE) (A := fun ds0 F0 => ds0 = ds ∧ F0 = F) (E := E) k rr ⟨rfl, rfl⟩ (q rfl) x dx hx hdx hne
    obtain ⟨rfl, rfl⟩ := e4
    exact ⟨G', x', dx', ds', vs', true, F', e1, e2, e3, ha, (fun e => nomatch e), fun _ => e5⟩
theorem v_makeQ {A : InitQ} {ds : List Dat} {F : List (Str × Dat) → Prop} {E : XK} (h : EvAX W K tA Γ ds) (ha : A ds true F) : Ev W K (tMake C (spInitQ K C CE A) [] E tA) Γ fun d => ∃ fsd, d = .obj C fsd ∧ F fsd := fun σ G H n k Q q =>
  h σ G H n k _ fun vs ds' G2 H2 s e r => by
    subst e
    exact make_runQ (s.ok k) r ha (fun e => nomatch e) fun _ => q.step s
theorem g_tryMakeQ {A : InitQ} {i j : Nat} {tsu : Addr → Value → Option Addr → TS} {Wout : WX} {ds : List Dat} {b : Bool} {F : List (Str × Dat) → Prop} (h : EvAX W K tA Γ ds) (ha : A ds b F) (hx : PySem.W.exmOne K (.ref CE) (.ref CE) = some true) (S : S4 W K G1 G0 H0 Γ O σ G H)
    (k1 : b = false → ∀ (a : Addr) (G2 H2 : Hp), S4 W K G1 G0 H0 Γ O σ G2 H2 → ∀ H3, tsu a (.ref CE) none { nx := fun σ' H' => D.nx (σ'.set i none) H', rt := D.rt, bk := fun σ' H' => D.bk (σ'.set i none) H', ct := fun σ' H' => D.ct (σ'.set i none) H' } (σ.set i (some (.ref a))) H3)
    (k2 : b = true → ∀ fsd, F fsd → ∀ v G2 H2, S4 W K G1 G0 H0 (Γ.set j (some (.obj C fsd))) O (σ.set j (some v)) G2 H2 → D.nx (σ.set j (some v)) H2) :
    tAsg (tMakeS C (spInitQ K C CE A) (WE (wAs K (.ref CE) i tsu Wout D)) tA) (gName j) D σ H := h σ G H S.env S.ok _ fun vs ds' G2 H2 s e rr => by
  subst e
  have S2 := S.step s
  refine make_runQ (C := C) (CE := CE) (Q := fun x H1 => gName j x σ H1 D.nx) (E := WE (wAs K (.ref CE) i tsu Wout D) σ) S2.ok rr ha (fun e H3 => ⟨true, hx, fun _ a _ => k1 e a G2 H2 S2 H3, fun z => Bool.noConfusion z⟩) fun e v d G3 H3 s3 p r3 => ?_
  obtain ⟨fsd, rfl, hF⟩ := p
  exact k2 e fsd hF v G3 H3 ((S2.step s3).set r3)
theorem q_tryMakeQ {A : InitQ} {i j : Nat} {tsu : Addr → Value → Option Addr → TS} {Wout : WX} {ds : List Dat} {b : Bool} {F : List (Str × Dat) → Prop} (h : EvAX W K tA Γ ds) (ha : A ds b F) (hx : PySem.W.exmOne K (.ref CE) (.ref CE) = some true) (S : S4 W K G1 G0 H0 Γ O σ G H)
    (k1 : b = false → ∀ (a : Addr) (G2 H2 : Hp), S4 W K G1 G0 H0 Γ O σ G2 H2 → ∀ (H3 : Hp) (D' : Ends), D'.rt = D.rt → tsu a (.ref CE) none D' (σ.set i (some (.ref a))) H3)
    (k2 : b = true → ∀ fsd, F fsd → ∀ v G2 H2, S4 W K G1 G0 H0 (Γ.set j (some (.obj C fsd))) O (σ.set j (some v)) G2 H2 → tz D (σ.set j (some v)) H2) :
    tSeq (fun D σ H => tAsg (tMakeS C (spInitQ K C CE A) (WE (wAs K (.ref CE) i tsu Wout D)) tA) (gName j) D σ H) tz D σ H := g_tryMakeQ (D := { D with nx := tz D }) h ha hx S (fun e a G2 H2 S2 H3 => k1 e a G2 H2 S2 H3 _ rfl) k2
/-- d.get((i, j), x) -/
theorem v_getD2 {es : List (List Key × Dat)} {ns : List Int} (h : EvX W K ta Γ (.dct es)) (hk : EvAX W K tA Γ (ns.map Dat.int)) (hl : ns.length ≤ 1000) (hx : EvX W K tb Γ .non) : EvX W K (tDGet2 ta (tTup tA) tb) Γ ((valD es (iK ns)).getD .non) := fun σ G H env k Q q =>
  h σ G H env k _ fun v e G2 H2 s ee r => by
    subst ee
    have k2 := s.ok k
    cases r with
    | @dct a vs es hg rd =>
      refine ⟨a, rfl, .inr ⟨vs, .inl (k2.ex _ _ hg)⟩, ?_⟩
      refine hk σ G2 H2 (env.mono s.gg) k2 _ fun ws ds G3 H3 s3 e3 r3 => ?_
      subst e3
      have ew := r3.ints
      subst ew
      have s13 := s.trans s3
      have k3 := s13.ok k
      refine ⟨by rw [List.length_map]; exact sz_of (by omega), fun p hp => ?_⟩
      have st := Stp.new (W := W) (o := .tup (ns.map V.int)) k3 hp
      have s14 := s13.trans st
      refine hx σ _ _ (env.mono s14.gg) (s14.ok k) _ fun z e5 G5 H5 s5 ez rz => ?_
      subst ez
      cases rz
      have s15 := s14.trans s5
      have hg5 : H5 a = some (.dT vs) := (s15.ok k).ex _ _ (s5.gg _ _ (st.gg _ _ (s3.gg _ _ hg)))
      have hb : H5 p = some (.tup ((iK ns).map kV)) := by
        rw [iK_V]
        exact s5.gh _ _ (s5.gg _ _ upd_same)
      refine ⟨valV vs (iK ns), DGet.t hg5 hb, ?_⟩
      rcases rd.val (k := iK ns) with ⟨z1, z2⟩ | ⟨v, d, z1, z2, z3⟩
      · rw [z1]
        exact q .non .non _ _ s15 (by rw [z2]; rfl) .non
      · rw [z1]
        rw [z2] at q
        exact q v d _ _ s15 rfl ((((z3.mono s3.gg).mono st.gg)).mono s5.gg)
end
end Ly

set_option maxHeartbeats 4000000
/-! # more words for lists and made objects -/
namespace Ly
open PySem L2 PySem.Spec PyProof.Rows
section
variable {K : PySem.W.Frag} {Γ : List (Option Dat)} {ta tc te tl tv tn : TE} {tt tu : TT} {tA : TA} {P R : Dat → Prop} {d a b : Dat} {G1 G0 H0 G H G2 H2 : Hp} {σ : L2.St} {D : Ends} {tz ts tw tb : TS} {x : Addr} {vs : List (List Key × V)} {es : List (List Key × Dat)} {i : Nat}
/-- for a, b, .. in a list of rows: each turn may store into d -/
theorem q_forLD {us : List Dat} {rows : Dat → List Dat} {js : List Nat} (h : EvX (WT x vs) K tl Γ (.lst us)) (hu : ∀ d ∈ us, d = .tup (rows d) ∧ (rows d).length = js.length) (hf : Dcts K G vs es) (S : S4 (WT x vs) K G1 G0 H0 Γ [] σ G H)
    (I : Nat → List (Option Dat) → List (List Key × Dat) → Prop) (hI0 : I 0 Γ es)
    (hs : ∀ G1 (n : Nat) d vs' es' Γ' σ' G' H', us[n]? = some d → I n Γ' es' → Dcts K G' vs' es' → S4 (WT x vs') K G1 G0 H0 (setsG Γ' js (rows d)) [] σ' G' H' →
      tb { D with nx := fun σ H => ∃ vs es Γ G, I (n + 1) Γ es ∧ Dcts K G vs es ∧ S4 (WT x vs) K G1 G0 H0 Γ [] σ G H, ct := fun σ H => ∃ vs es Γ G, I (n + 1) Γ es ∧ Dcts K G vs es ∧ S4 (WT x vs) K G1 G0 H0 Γ [] σ G H, bk := tz D } σ' H')
    (hd : ∀ vs' es' Γ' σ' G' H', I us.length Γ' es' → Dcts K G' vs' es' → S4 (WT x vs') K G1 G0 H0 Γ' [] σ' G' H' → tz D σ' H') : tSeq (tFor (iList K tl) (gTup K js.length (gNames js)) tb) tz D σ H :=
  h σ G H S.env S.ok _ fun v d G2 H2 s e r => by
    subst e
    obtain ⟨a, xs, rfl, hx, r⟩ := r.lst_inv
    have S2 := S.step s
    have hl := r.length
    refine ⟨a, rfl, ⟨xs, ex_l S2.ok.ex hx⟩, for_list (fun n σ H => ∃ vs es Γ G, I n Γ es ∧ Dcts K G vs es ∧ S4 (WT x vs) K G2 G0 H0 Γ [] σ G H) ⟨vs, es, Γ, G2, hI0, hf.mono s.gg, S2.here⟩ (fun n σ' H' _ ⟨vs', es', Γ', G', _, _, S'⟩ => ex_l (S'.fr.trans S'.ok.ex) hx) (fun n y σ' H' hi ⟨vs', es', Γ', G', hI, hf', S'⟩ => ?_) (fun σ' H' ⟨vs', es', Γ', G', hI, hf', S'⟩ => hd vs' es' Γ' σ' G' H' (by rw [← hl]; exact hI) hf' (S'.base S2.fr))⟩
    obtain ⟨d, hd', rd⟩ := r.getV hi
    obtain ⟨e, hn⟩ := hu d (List.mem_of_getElem? hd')
    have rd := rd.mono S'.fr
    rw [e] at rd
    exact t_names rd hn rfl S' fun σ2 S3 => hs G2 n d vs' es' Γ' σ2 G' H' hd' hI hf' S3
end
section
variable {W : Wd} {K : PySem.W.Frag} {Γ : List (Option Dat)} {ta tb tc te tl tv tn : TE} {tt tu : TT} {tA : TA} {P R : Dat → Prop} {d : Dat} {G1 G0 H0 G H G2 H2 : Hp} {O : List (Addr × List Dat)} {σ : L2.St} {D : Ends} {tz ts tw : TS} {C CE : Addr}
/-- [x for x in ns if p(x)], over a tuple -/
theorem n_lcFT {j : Nat} {ns : List Int} {p : Int → Bool} (h : EvX W K tl Γ (.tup (dI ns))) (hl : ns.length < 100000) (ht : ∀ x, EvBX W K tt ((wipeG Γ [j]).set j (some (.int x))) (p x)) (he : ∀ x, EvX W K te ((wipeG Γ [j]).set j (some (.int x))) (.int x)) :
    EvN W K (tLc (iTup K tl) (gName j) tt te [j]) Γ (· = dI (ns.filter p)) :=
  n_lcT (fun i ds => ds = dI ((ns.take i).filter p)) h rfl (fun i d hd => by
    rw [List.getElem?_map] at hd
    cases e : ns[i]? with
    | none =>
      rw [e] at hd
      cases hd
    | some x =>
      rw [e] at hd
      have ed : Dat.int x = d := Option.some.inj hd
      subst ed
      intro ds e2
      refine ⟨by
        rw [e2, List.length_map]
        have := (List.filter_sublist (p := p) (l := ns.take i)).length_le
        rw [List.length_take] at this
        omega, _, ht x, fun e3 => (he x).imp fun d ed => ?_, fun e3 => ?_⟩
      · rw [e2, ed, List.take_succ, e]
        simp [List.filter_append, ← e3]
      · rw [e2, List.take_succ, e]
        simp [List.filter_append, ← e3]) fun ds e => by
    rw [List.length_map, List.take_length] at e
    exact e
/-- [x for x in us if p(x)], over a list of data -/
theorem n_lcFL {α : Type} {j : Nat} {us : List α} {f : α → Dat} {p : α → Bool} (h : EvX W K tl Γ (.lst (us.map f))) (hl : us.length < 100000) (ht : ∀ x ∈ us, EvBX W K tt ((wipeG Γ [j]).set j (some (f x))) (p x)) (he : ∀ x, EvX W K te ((wipeG Γ [j]).set j (some (f x))) (f x)) :
    EvN W K (tLc (iList K tl) (gName j) tt te [j]) Γ (· = (us.filter p).map f) :=
  n_lcL (fun i ds => ds = ((us.take i).filter p).map f) h rfl (fun i d hd => by
    rw [List.getElem?_map] at hd
    cases e : us[i]? with
    | none =>
      rw [e] at hd
      cases hd
    | some x =>
      rw [e] at hd
      have ed : f x = d := Option.some.inj hd
      subst ed
      intro ds e2
      refine ⟨by
        rw [e2, List.length_map]
        have := (List.filter_sublist (p := p) (l := us.take i)).length_le
        rw [List.length_take] at this
        omega, _, ht x (List.mem_of_getElem? e), fun e3 => (he x).imp fun d ed => ?_, fun e3 => ?_⟩
      · rw [e2, ed, List.take_succ, e]
        simp [List.filter_append, ← e3]
      · rw [e2, List.take_succ, e]
        simp [List.filter_append, ← e3]) fun ds e => by
    rw [List.length_map, List.take_length] at e
    exact e
/-- list + list, told by what they are -/
theorem n_catP {A B : List Dat → Prop} (ha : Ev W K ta Γ fun d => ∃ xs, d = .lst xs ∧ A xs) (hb : Ev W K tb Γ fun d => ∃ ys, d = .lst ys ∧ B ys) (hz : ∀ xs ys, A xs → B ys → xs.length + ys.length ≤ 100000) : EvN W K (tOp (rCatL K) ta tb) Γ fun ds => ∃ xs ys, ds = xs ++ ys ∧ A xs ∧ B ys := fun σ G H n k Q q =>
  ha σ G H n k _ fun x dx G2 H2 s px rx => hb σ G2 H2 (n.mono s.gg) (s.ok k) _ fun y dy G3 H3 t py ry => by
    obtain ⟨xs, rfl, pa⟩ := px
    obtain ⟨ys, rfl, pb⟩ := py
    obtain ⟨a, us, rfl, ha, ra⟩ := rx.lst_inv
    obtain ⟨b, vs, rfl, hb, rb⟩ := ry.lst_inv
    have k3 := t.ok (s.ok k)
    refine ⟨a, b, us, vs, rfl, rfl, ex_l (t.gg.trans k3.ex) ha, ex_l k3.ex hb, by rw [ra.length, rb.length]; exact sz_of (hz xs ys pa pb), fun p hp => ?_⟩
    have st := s.trans t
    have k4 : Stp W G3 H3 G3 (upd H3 p (.lst (us ++ vs))) := Stp.grow k3 (Ex.new hp)
    exact q p _ _ G3 _ (st.trans k4) ((back st hp).1) ((back (Stp.refl k3) hp).2) upd_same ((ra.mono t.gg).append rb) ⟨xs, ys, rfl, pa, pb⟩
theorem g_putJ {l : Addr} {ds : List Dat} {i j : Nat} (hi : Γ[i]? = some (some (.adr l))) (h : Ev W K te (Γ.set i (some (.lst ds))) P) (hp : ∀ d, P d → NL d) (hb : EvX W K tb Γ (.int (j : Int))) (hj : j < ds.length) (S : S4 W K G1 G0 H0 Γ ((l, ds) :: O) σ G H)
    (k : ∀ d G2 H2, P d → S4 W K G1 G0 H0 Γ ((l, ds.set j d) :: O) σ G2 H2 → D.nx σ H2) : tAsg te (gSub (tVar i) tb rSetL) D σ H :=
  S.look hi List.mem_cons_self h hp fun v d G2 H2 S2 p r => by
    obtain ⟨v1, e1, e2⟩ := S2.env.at' i _ hi
    have e3 := e2.adr_inv
    subst e3
    refine ⟨.ref l, e1, ?_⟩
    refine hb σ G2 H2 S2.env S2.ok _ fun y e G3 H3 s e3 r3 => ?_
    subst e3
    cases r3
    have S3 := S2.step s
    obtain ⟨xs, h1, h2⟩ := (S3.own l ds List.mem_cons_self).at'
    have hl := h2.length
    refine ⟨l, xs, (j : Int), j, rfl, rfl, h1, ?_, ?_⟩
    · unfold ixN
      rw [if_pos (by omega), if_pos (by omega)]
      rfl
    · exact k d G3 _ p (S3.put (h2.set (r.mono s.gg) j))
/-- try: y = C(.., xs, ..), xs an own list -/
theorem g_tryMakeQL {A : InitQ} {i j m : Nat} {l : Addr} {us : List Dat} {tsu : Addr → Value → Option Addr → TS} {Wout : WX} {ds : List Dat} {b : Bool} {F : List (Str × Dat) → Prop} (hi : Γ[m]? = some (some (.adr l))) (hm : (l, us) ∈ O) (h : EvAX W K tA (Γ.set m (some (.lst us))) ds) (ha : A ds b F) (hN : ∀ fsd, F fsd → NLf fsd) (hx : PySem.W.exmOne K (.ref CE) (.ref CE) = some true) (S : S4 W K G1 G0 H0 Γ O σ G H)
    (k1 : b = false → ∀ (a : Addr) (G2 H2 : Hp), S4 W K G1 G0 H0 Γ O σ G2 H2 → ∀ H3, tsu a (.ref CE) none { nx := fun σ' H' => D.nx (σ'.set i none) H', rt := D.rt, bk := fun σ' H' => D.bk (σ'.set i none) H', ct := fun σ' H' => D.ct (σ'.set i none) H' } (σ.set i (some (.ref a))) H3)
    (k2 : b = true → ∀ fsd, F fsd → ∀ v G2 H2, S4 W K G1 G0 H0 (Γ.set j (some (.obj C fsd))) O (σ.set j (some v)) G2 H2 → D.nx (σ.set j (some v)) H2) :
    tAsg (tMakeS C (spInitQ K C CE A) (WE (wAs K (.ref CE) i tsu Wout D)) tA) (gName j) D σ H := by
  obtain ⟨G', e, o, f⟩ := S.lookG hi hm
  refine h σ G' H e o _ fun vs ds' G2 H2 s ee rr => ?_
  subst ee
  refine make_runQ (C := C) (CE := CE) (Q := fun x H1 => gName j x σ H1 D.nx) (E := WE (wAs K (.ref CE) i tsu Wout D) σ) (s.ok o) rr ha (fun e H3 => ⟨true, hx, fun _ a _ => k1 e a _ H2 (f G2 H2 s).1 H3, fun z => Bool.noConfusion z⟩) fun e v d G3 H3 s3 p r3 => ?_
  obtain ⟨fsd, rfl, hF⟩ := p
  obtain ⟨S3, _, xs, g3⟩ := f G3 H3 (s.trans s3)
  exact k2 e fsd hF v _ H3 (S3.set (Rep.thaw g3 (by rw [NL]; exact hN fsd hF) r3))
theorem q_tryMakeQL {A : InitQ} {i j m : Nat} {l : Addr} {us : List Dat} {tsu : Addr → Value → Option Addr → TS} {Wout : WX} {ds : List Dat} {b : Bool} {F : List (Str × Dat) → Prop} (hi : Γ[m]? = some (some (.adr l))) (hm : (l, us) ∈ O) (h : EvAX W K tA (Γ.set m (some (.lst us))) ds) (ha : A ds b F) (hN : ∀ fsd, F fsd → NLf fsd) (hx : PySem.W.exmOne K (.ref CE) (.ref CE) = some true) (S : S4 W K G1 G0 H0 Γ O σ G H)
    (k1 : b = false → ∀ (a : Addr) (G2 H2 : Hp), S4 W K G1 G0 H0 Γ O σ G2 H2 → ∀ (H3 : Hp) (D' : Ends), D'.rt = D.rt → tsu a (.ref CE) none D' (σ.set i (some (.ref a))) H3)
    (k2 : b = true → ∀ fsd, F fsd → ∀ v G2 H2, S4 W K G1 G0 H0 (Γ.set j (some (.obj C fsd))) O (σ.set j (some v)) G2 H2 → tz D (σ.set j (some v)) H2) :
    tSeq (fun D σ H => tAsg (tMakeS C (spInitQ K C CE A) (WE (wAs K (.ref CE) i tsu Wout D)) tA) (gName j) D σ H) tz D σ H := g_tryMakeQL (D := { D with nx := tz D }) hi hm h ha hN hx S (fun e a G2 H2 S2 H3 => k1 e a G2 H2 S2 H3 _ rfl) k2
/-- == by the class's own def, the right one told by what it is -/
theorem v_eqOwnP {A : Sig} {f1 : List (Str × Dat)} {F : List (Str × Dat) → Prop} {c neg : Bool} (h1 : EvX W K ta Γ (.obj C f1)) (h2 : Ev W K tb Γ fun d => ∃ f2, d = .obj C f2 ∧ F f2) (hs : ∀ f2, F f2 → A [.obj C f1, .obj C f2] (· = .bl c)) : EvX W K (tOp (rEqOwn C (spOf Wd0 K A) neg) ta tb) Γ (.bl (if neg = true then !c else c)) := v_op h1 h2 fun a b ea ⟨f2, eb, hF⟩ => by
  subst ea eb
  intro G H x y k rx ry Q q
  cases rx with
  | @obj a _ dx vs _ hg fl =>
    cases ry with
    | @obj b _ dy us _ hg2 fl2 =>
      exact ⟨a, b, dx, dy, vs, us, rfl, rfl, k.ex _ _ hg, k.ex _ _ hg2, G, _, _, k.pure, .cons (.obj hg fl) (.cons (.obj hg2 fl2) .nil), hs f2 hF, fun v d G2 H2 t pd rd => by
        subst pd
        cases rd
        exact ⟨c, rfl, (q.step (Stp.of0 k t)).here ((Stp.of0 k t).ok k) (.bl _) rfl⟩⟩
end
end Ly

set_option maxHeartbeats 4000000
/-! # a new own list that is told by an own list; tuple + tuple by what they are -/
namespace Ly
open PySem L2 PySem.Spec PyProof.Rows
section
variable {W : Wd} {K : PySem.W.Frag} {Γ : List (Option Dat)} {ta tb tc te tl tv tn : TE} {tt tu : TT} {tA : TA} {P R : Dat → Prop} {d : Dat} {G1 G0 H0 G H G2 H2 : Hp} {O : List (Addr × List Dat)} {σ : L2.St} {D : Ends} {tz ts tw : TS}
theorem g_setNL {P : List Dat → Prop} {l : Addr} {ds : List Dat} {i j : Nat} (hi : Γ[i]? = some (some (.adr l))) (hm : (l, ds) ∈ O) (h : EvN W K te (Γ.set i (some (.lst ds))) P) (hp : ∀ es, P es → NLs es) (S : S4 W K G1 G0 H0 Γ O σ G H)
    (k : ∀ p es σ2 G2 H2, P es → S4 W K G1 G0 H0 (Γ.set j (some (.adr p))) ((p, es) :: O) σ2 G2 H2 → D.nx σ2 H2) : tAsg te (gName j) D σ H :=
  S.lookN hi hm h hp fun p xs es G2 H2 S2 st h0 g2 h2 r pe => by
    have S3 := S2.set (i := j) (Rep.adr p)
    refine k p es _ G2 H2 pe ⟨S3.env, S3.ok, S3.stp, fun l es2 hm => ?_, ?_, S3.fr⟩
    · rcases List.mem_cons.mp hm with e | hm
      · cases e
        refine ⟨g2, (back S.stp h0).1, fun hmm => ?_, xs, h2, r⟩
        obtain ⟨z, hz⟩ := W.tr S.ok.inv hmm
        rw [hz] at h0
        cases h0
      · exact S2.own l es2 hm
    · rw [List.map_cons, List.nodup_cons]
      refine ⟨fun hm => ?_, S2.nd⟩
      obtain ⟨⟨l2, es2⟩, h1, e⟩ := List.mem_map.mp hm
      have e : l2 = p := e
      subst e
      obtain ⟨ys, hy, _⟩ := (S.own _ _ h1).at'
      rw [hy] at h0
      cases h0
theorem v_catTP {xs : List Dat} {B : List Dat → Prop} (ha : EvX W K ta Γ (.tup xs)) (hb : Ev W K tb Γ fun d => ∃ ys, d = .tup ys ∧ B ys) (hz : ∀ ys, B ys → xs.length + ys.length ≤ 100000) : Ev W K (tOp (rCatA K) ta tb) Γ fun d => ∃ ys, d = .tup (xs ++ ys) ∧ B ys := fun σ G H n k Q q =>
  ha σ G H n k _ fun x dx G2 H2 s px rx => hb σ G2 H2 (n.mono s.gg) (s.ok k) _ fun y dy G3 H3 t py ry => by
    obtain ⟨ys, rfl, hB⟩ := py
    have ek := t.ok (s.ok k)
    subst px
    have := v_cat (W := W) (K := K) (Γ := [some (.tup xs), some (.tup ys)]) (ta := tVar 0) (tb := tVar 1) (v_var rfl) (v_var rfl) (hz ys hB) [some x, some y] G3 H3 ⟨rfl, fun i d e => by
      match i, e with
      | 0, e => cases e; exact ⟨x, rfl, rx.mono t.gg⟩
      | 1, e => cases e; exact ⟨y, rfl, ry⟩⟩ ek Q fun v d G4 H4 s4 p r4 => q v d G4 H4 ((s.trans t).trans s4) ⟨ys, p, hB⟩ r4
    obtain ⟨x', h1, y', h2, h3⟩ := this
    cases h1
    cases h2
    exact h3
end
end Ly

set_option maxHeartbeats 4000000
/-! # reversed(range(n)), bit_length, >>, & 1 -/
namespace Ly
open PySem L2 PySem.Spec PyProof.Rows
section
variable {W : Wd} {K : PySem.W.Frag} {Γ : List (Option Dat)} {ta tb tc te tl tv tn : TE} {tt tu : TT} {tA : TA} {P R : Dat → Prop} {d : Dat} {G1 G0 H0 G H G2 H2 : Hp} {O : List (Addr × List Dat)} {σ : L2.St} {D : Ends} {tz ts tw : TS}
abbrev rShrN : R2 := fun x y H Q => ∃ (i : Int) (k : Nat), x = .int i ∧ y = .int (k : Int) ∧ Q (.int (i / 2 ^ k)) H
abbrev rOdd : R2 := fun x y H Q => ∃ n : Nat, x = .int (n : Int) ∧ y = .int 1 ∧ Q (.int ((n % 2 : Nat) : Int)) H
theorem v_shrN {i : Int} {k : Nat} (ha : EvX W K ta Γ (.int i)) (hb : EvX W K tb Γ (.int (k : Int))) : EvX W K (tOp rShrN ta tb) Γ (.int (i / 2 ^ k)) := v_opx ha hb fun G H x y kk rx ry Q q => by
  cases rx
  cases ry
  exact ⟨i, k, rfl, rfl, q.here kk (.int _) rfl⟩
theorem v_odd {n : Nat} (ha : EvX W K ta Γ (.int (n : Int))) (hb : EvX W K tb Γ (.int 1)) : EvX W K (tOp rOdd ta tb) Γ (.int ((n % 2 : Nat) : Int)) := v_opx ha hb fun G H x y kk rx ry Q q => by
  cases rx
  cases ry
  exact ⟨n, rfl, rfl, q.here kk (.int _) rfl⟩
theorem v_bits {i : Int} (ha : EvX W K ta Γ (.int i)) : EvX W K (tBits ta) Γ (.int (Builtin.Int.intBits i : Nat)) := fun σ G H n k Q q =>
  ha σ G H n k _ fun v e G2 H2 s ee r => by
    subst ee
    cases r
    exact ⟨i, rfl, (q.step s).here (s.ok k) (.int _) rfl⟩
theorem b_truI {i : Int} (h : EvX W K ta Γ (.int i)) : EvBX W K (fun σ H Q => ta σ H fun x H' => ∃ k, TruV K x H' k ∧ Q k H') Γ (i != 0) := fun σ G H n k Q q => h σ G H n k _ fun v d G2 H2 s e r => by
  subst e
  cases r
  exact ⟨i != 0, rfl, q _ G2 H2 s rfl⟩
/-- for j in reversed(range(n)) -/
theorem g_forRev {n : Int} {j : Nat} {tb : TS} (h : EvX W K ta Γ (.int n)) (hn : 0 ≤ n ∧ n ≤ 100000) (S : S4 W K G1 G0 H0 Γ O σ G H) (I : Nat → List (Option Dat) → List (Addr × List Dat) → Prop) (h0 : I 0 Γ O)
    (hs : ∀ (i : Nat) Γ' O' σ' G' H', (i : Int) < n → I i Γ' O' → S4 W K G1 G0 H0 (Γ'.set j (some (.int (n - 1 - (i : Int))))) O' σ' G' H' → tb { D with nx := Word W K G1 G0 H0 (I (i + 1)), ct := Word W K G1 G0 H0 (I (i + 1)), bk := D.nx } σ' H')
    (hd : ∀ Γ' O' σ' G' H', I n.toNat Γ' O' → S4 W K G1 G0 H0 Γ' O' σ' G' H' → D.nx σ' H') : tFor (iRevR (tRg1 ta)) (gName j) tb D σ H :=
  h σ G H S.env S.ok _ fun v e G2 H2 s ee r => by
    subst ee
    cases r
    have e2 : (n - 0).toNat = n.toNat := by omega
    have e3 : (n.toNat : Int) = n := Int.toNat_of_nonneg hn.1
    refine ⟨n, rfl, by omega, by omega, by omega, by omega, ?_⟩
    rw [e2]
    refine for_rangeC (fun i σ H => Word W K G1 G0 H0 (I i) σ H) ⟨Γ, O, G2, h0, S.step s⟩ (fun i σ' H' hlt ⟨Γ', O', G', hI, S'⟩ => ?_) (fun σ' H' ⟨Γ', O', G', hI, S'⟩ => hd Γ' O' σ' G' H' hI S')
    have e4 : (0 : Int) + (n.toNat : Int) - 1 + (i : Int) * (-1) = n - 1 - (i : Int) := by omega
    rw [e4]
    exact hs i Γ' O' _ G' H' (by omega) hI (S'.set (.int _))
theorem q_forRev {n : Int} {j : Nat} {tb : TS} (h : EvX W K ta Γ (.int n)) (hn : 0 ≤ n ∧ n ≤ 100000) (S : S4 W K G1 G0 H0 Γ O σ G H) (I : Nat → List (Option Dat) → List (Addr × List Dat) → Prop) (h0 : I 0 Γ O)
    (hs : ∀ (i : Nat) Γ' O' σ' G' H', (i : Int) < n → I i Γ' O' → S4 W K G1 G0 H0 (Γ'.set j (some (.int (n - 1 - (i : Int))))) O' σ' G' H' → tb { D with nx := Word W K G1 G0 H0 (I (i + 1)), ct := Word W K G1 G0 H0 (I (i + 1)), bk := tz D } σ' H')
    (hd : ∀ Γ' O' σ' G' H', I n.toNat Γ' O' → S4 W K G1 G0 H0 Γ' O' σ' G' H' → tz D σ' H') : tSeq (tFor (iRevR (tRg1 ta)) (gName j) tb) tz D σ H := g_forRev (D := { D with nx := tz D }) h hn S I h0 hs hd
end
end Ly

set_option maxHeartbeats 4000000
/-! # defs that may raise an error without a field -/
namespace Ly
open PySem L2 PySem.Spec PyProof.Rows
theorem ps_raiseEN {X : Cx} {W : WX} {C : Addr} {x m : Str} {j : Nat} {p p2 pos pos2 : Pos} (hc : X.calm = true) (tk : L2N.Takes X W) (e : ErrP X.K X.mg x C) (hg : Gl X x) (hdb : (x == ("__debug__" : Str)) = false := by decide) :
    PS X (.Raise (some (.Call (.Name x p) [.Constant (.str m) j p2] [] pos)) none pos2) (fun _ σ H => W (.ref C) none σ H) :=
  L2N.ps_raise hc tk (L2N.pmk_own PySem.F.excBase_ValueError e.ex e.gl e.kp (raises_own e.sub e.ty) hg hdb)
section
variable {W : Wd} {K : PySem.W.Frag} {Γ : List (Option Dat)} {ta tb tc te tl tv tn : TE} {tt tu : TT} {tA : TA} {P : Dat → Prop} {d a b e : Dat} {G1 G0 H0 G H G2 H2 : Hp} {O : List (Addr × List Dat)} {σ : L2.St} {D : Ends} {tz ts t1 t2 : TS} {Q : VK} {E : XK}
theorem out_raise {C : Addr} (q : OutG Wd0 K G0 H0 Q E (.err C none)) (S : S4 Wd0 K G0 G0 H0 Γ O σ G H) : E (.ref C) none H := q none G H S.stp (fun _ => rfl) fun f e => nomatch e
theorem out_val {v : V} (q : OutG Wd0 K G0 H0 Q E (.val P)) (S : S4 Wd0 K G0 G0 H0 Γ O σ G H) (hd : P d) (r : Rep K G v d) : Q v H := q v d G H S.stp hd r
/-- if not i <= j < f(..): .., where f may raise -/
theorem g_ifNC {i j : Int} {A : XSig} {ds : List Dat} {o : Out} (ha : EvX W K ta Γ (.int i)) (hb : EvX W K tb Γ (.int j)) (hA : EvAX W K tA Γ ds) (ho : A ds o) (S : S4 W K G1 G0 H0 Γ O σ G H)
    (k0 : ¬ i ≤ j → ∀ G2 H2, S4 W K G1 G0 H0 Γ O σ G2 H2 → t1 D σ H2)
    (kv : i ≤ j → ∀ P, o = .val P → ∃ m : Int, (∀ d, P d → d = .int m) ∧ (j < m → ∀ G2 H2, S4 W K G1 G0 H0 Γ O σ G2 H2 → t2 D σ H2) ∧ (¬ j < m → ∀ G2 H2, S4 W K G1 G0 H0 Γ O σ G2 H2 → t1 D σ H2))
    (ke : i ≤ j → ∀ C fs, o = .err C fs → ∀ d G2 H2, S4 W K G1 G0 H0 Γ O σ G2 H2 → (fs = none → d = none) → (∀ f, fs = some f → ∃ a, d = some a ∧ H2 a = some (.xd f)) → E (.ref C) d H2) :
    tIfS (tNot (tTest (tChain (rI0 fun i j => .bl (decide (i ≤ j))) (rI0 fun i j => .bl (decide (i < j))) ta tb (tCall (spX Wd0 K A) [] E tA)))) t1 t2 D σ H := by
  refine ha σ G H S.env S.ok _ fun vx dx G2 H2 s2 ex rx => ?_
  subst ex
  have S := S.step s2
  refine hb σ G2 H2 S.env S.ok _ fun vy dy G3 H3 s3 ey ry => ?_
  subst ey
  have S := S.step s3
  refine r_le (W := W) (K := K) G3 H3 vx vy S.ok (rx.mono s3.gg) ry _ fun v4 d4 G4 H4 s4 e4 r4 => ?_
  subst e4
  cases r4
  have S := S.step s4
  refine ⟨_, rfl, ?_⟩
  by_cases h : i ≤ j
  · rw [decide_eq_true h, if_pos rfl]
    refine x_callP hA ho S (fun P eP v d G5 H5 S5 pd rd => ?_) (ke h)
    obtain ⟨m, hm, k1, k2⟩ := kv h P eP
    have hd := hm d pd
    subst hd
    have st := S5
    refine r_lt (W := W) (K := K) (i := j) (j := m) G5 H5 vy v S5.ok ?_ rd _ fun v6 d6 G6 H6 s6 e6 r6 => ?_
    · cases ry
      exact .int _
    · subst e6
      cases r6
      have S6 := S5.step s6
      refine ⟨_, rfl, ?_⟩
      by_cases h2 : j < m
      · rw [decide_eq_true h2]
        exact k1 h2 _ _ S6
      · rw [decide_eq_false h2]
        exact k2 h2 _ _ S6
  · rw [decide_eq_false h, if_neg Bool.false_ne_true]
    exact ⟨_, rfl, k0 h _ _ S⟩
/-- a call as a statement, whose error passes on -/
theorem q_dropP {A : XSig} {ds : List Dat} {o : Out} (h : EvAX W K tA Γ ds) (ha : A ds o) (S : S4 W K G1 G0 H0 Γ O σ G H) (kv : ∀ P, o = .val P → ∀ G2 H2, S4 W K G1 G0 H0 Γ O σ G2 H2 → tz D σ H2)
    (ke : ∀ C fs, o = .err C fs → ∀ d G2 H2, S4 W K G1 G0 H0 Γ O σ G2 H2 → (fs = none → d = none) → (∀ f, fs = some f → ∃ a, d = some a ∧ H2 a = some (.xd f)) → E (.ref C) d H2) :
    tSeq (tDrop (tCall (spX Wd0 K A) [] E tA)) tz D σ H := x_callP h ha S (fun P e v d G2 H2 S2 _ _ => kv P e G2 H2 S2) ke
theorem q_dropS {A : XSig} {EE : L2.St → XK} {ds : List Dat} {o : Out} (h : EvAX W K tA Γ ds) (ha : A ds o) (S : S4 W K G1 G0 H0 Γ O σ G H) (kv : ∀ P, o = .val P → ∀ G2 H2, S4 W K G1 G0 H0 Γ O σ G2 H2 → D.nx σ H2)
    (ke : ∀ C fs, o = .err C fs → ∀ d G2 H2, S4 W K G1 G0 H0 Γ O σ G2 H2 → (fs = none → d = none) → (∀ f, fs = some f → ∃ a, d = some a ∧ H2 a = some (.xd f)) → EE σ (.ref C) d H2) :
    tDrop (tCallS (spX Wd0 K A) EE tA) D σ H := x_callS h ha S (fun P e v d G2 H2 S2 _ _ => kv P e G2 H2 S2) ke
end
end Ly

set_option maxHeartbeats 4000000
/-! # tuples of the module; isinstance of another class -/
namespace Ly
open PySem L2 PySem.Spec PyProof.Rows
/-- a written tuple of the module stands for data in every heap -/
theorem rep_kt {K : PySem.W.Frag} {G : Hp} {a : Addr} {od : Option Addr} {its : Array Value} {n : Nat} {sl : Array (Option Value)} {xs : List V} {ds : List Dat} (hl : K.lookup a = some ⟨.type "tuple", od, .seq its n, sl⟩) (hz : its.size ≤ sizeLine) (hv : Vals xs its.toList) (hr : Reps K G xs ds) : Rep K G (.ref a) (.tup ds) :=
  .tup (.inr ⟨_, its, n, hl, rfl, rfl, hz, hv⟩) hr
section
variable {W : Wd} {K : PySem.W.Frag} {Γ : List (Option Dat)} {ta : TE}
/-- isinstance(x, C2), x of the class C -/
theorem v_isCls {C C2 f : Addr} {b : Bool} {fsd : List (Str × Dat)} (q : ClsQ K C f) (hk : PySem.W.kitOne K (.ref C) (.ref C2) = some b) (h : EvX W K ta Γ (.obj C fsd)) : EvX W K (tCB (rIsi K) (tCons ta (tCons (tC (.ref C2)) tNil))) Γ (.bl b) := fun σ G H n k Q qq =>
  h σ G H n k _ fun v e G2 H2 s ee r => by
    subst ee
    have k2 := s.ok k
    cases r with
    | @obj a _ dx vs _ hg fl =>
      exact ⟨.ref a, .ref C2, .ref C, .ref C2, b, rfl, .own C2, .base (.ins (k2.ex _ _ hg) q.cls q.ha q.hn q.ht q.hm), hk, (qq.step s).here k2 (.bl _) rfl⟩
theorem v_notInS {tb : TE} {c : Nat} {z : Str} (ha : EvX W K ta Γ (.str (sg c))) (hb : EvX W K tb Γ (.str z)) : EvX W K (tOp (fun x y H Q => ∃ (c : Nat) (z : Str), x = .str ⟨#[c]⟩ ∧ y = .str z ∧ Q (.bl (!decide (c ∈ z.cps.toList))) H) ta tb) Γ (.bl (!decide (c ∈ z.cps.toList))) := v_opx ha hb fun G H x y k rx ry Q q => by
  cases rx
  cases ry
  exact ⟨c, z, rfl, rfl, q.here k (.bl _) rfl⟩
end
section
variable {W : Wd} {K : PySem.W.Frag} {Γ : List (Option Dat)} {te : TE} {G1 G0 H0 G H : Hp} {O : List (Addr × List Dat)} {σ : L2.St} {D : Ends} {tz : TS}
/-- a, b = a list -/
theorem q_lstA {js : List Nat} {n : Nat} {ds : List Dat} (h : EvX W K te Γ (.lst ds)) (hn : ds.length = n) (hj : js.length = n) (S : S4 W K G1 G0 H0 Γ O σ G H) (k : ∀ σ2 G2 H2, S4 W K G1 G0 H0 (setsG Γ js ds) O σ2 G2 H2 → tz D σ2 H2) : tSeq (tAsg te (gLst K n (gNames js))) tz D σ H :=
  h σ G H S.env S.ok _ fun v d G2 H2 s e r => by
    subst e
    have S2 := S.step s
    obtain ⟨a, xs, rfl, hs, r⟩ := r.lst_inv
    exact ⟨a, xs, rfl, ex_l S2.ok.ex hs, by rw [r.length]; exact hn, gNames_run (js := js) r (hj.trans hn.symm) S2 fun σ2 S3 => k σ2 G2 H2 S3⟩
end
end Ly

set_option maxHeartbeats 4000000
/-! # an __init__ that may raise, the heap told where it does -/
namespace Ly
open PySem L2 PySem.Spec PyProof.Rows
def spInitR (K : PySem.W.Frag) (C CE : Addr) (A : InitQ) : Sp := fun vs H Q E => ∃ G x dx ds vs' b F, vs = .ref x :: vs' ∧ Ok (WI x C dx []) G H ∧ Reps K G vs' ds ∧ A ds b F ∧ (b = false → ∀ G2 H2 fs, Stp (WI x C dx fs) G H G2 H2 → E (.ref CE) none H2) ∧
  (b = true → ∀ fsd, F fsd → ∀ G2 H2 fs, Stp (WI x C dx fs) G H G2 H2 → Flds K G2 fs fsd → Q .non H2)
section
variable {W : Wd} {K : PySem.W.Frag} {Γ : List (Option Dat)} {ta tb : TE} {tA : TA} {G1 G0 H0 G H G2 H2 : Hp} {O : List (Addr × List Dat)} {σ : L2.St} {D : Ends} {C CE x dx : Addr} {fs : List (Str × V)}
theorem spInitR_len {A : InitQ} {n : Nat} (h : ∀ ds b F, A ds b F → ds.length = n) : ∀ vs H Q E, spInitR K C CE A vs H Q E → vs.length = n + 1 := fun vs H Q E ⟨G, x, dx, ds, vs', b, r, e, _, r1, a, _⟩ => by rw [e, List.length_cons, r1.length, h ds b r a]
theorem stp_made (k : Ok W G H) (hx : H x = none) (hdx : H dx = none) (s : Stp (WI x C dx fs) G (upd (upd H dx (.own x)) x (.ins C dx [])) G2 H2) : Stp W G H (upd G2 x (.ins C dx fs)) H2 := by
  have gx : G x = none := by
    cases e : G x with
    | none => rfl
    | some u =>
      rw [k.ex x u e] at hx
      cases hx
  have eH : ∀ a u, H a = some u → (upd (upd H dx (.own x)) x (.ins C dx [])) a = some u := fun a u e => by
    rw [upd_ne (ne_of_none e hx), upd_ne (ne_of_none e hdx)]
    exact e
  have g2x : G2 x = none := by
    cases e : G2 x with
    | none => rfl
    | some u =>
      rcases s.nw x u e with z | z
      · rw [gx] at z
        cases z
      · rw [upd_same] at z
        cases z
  have gg : Ex G2 (upd G2 x (.ins C dx fs)) := Ex.new g2x
  have hx2 : H2 x = some (.ins C dx fs) := s.inv
  have keep : ∀ a u, H a = some u → H2 a = some u := fun a u e => s.hh a u (fun z => by
    have z : a = x := z
    rw [z, hx] at e
    cases e) (eH a u e)
  refine ⟨s.gg.trans gg, fun a u e => ?_, fun a u _ e => keep a u e, fun a u e => ?_, ?_⟩
  · by_cases q : a = x
    · subst q
      rw [upd_same] at e
      rw [hx2]
      exact e
    · rw [upd_ne q] at e
      exact s.gh a u e
  · by_cases q : a = x
    · subst q
      exact .inr hx
    · rw [upd_ne q] at e
      rcases s.nw a u e with z | z
      · exact .inl z
      · right
        cases h : H a with
        | none => rfl
        | some w =>
          rw [eH a w h] at z
          cases z
  · exact W.loc k.inv fun a ha => by
      obtain ⟨u, hu⟩ := W.tr k.inv ha
      rw [hu]
      exact keep a u hu
theorem make_runR {A : InitQ} {vs : List V} {ds : List Dat} {b : Bool} {F : List (Str × Dat) → Prop} {Q : VK} {E : XK} (k : Ok W G H) (rr : Reps K G vs ds) (ha : A ds b F) (hE : b = false → ∀ G2 H2, Stp W G H G2 H2 → E (.ref CE) none H2) (q : b = true → Go W K G H (fun d => ∃ fsd, d = .obj C fsd ∧ F fsd) Q) :
    ∀ x dx, H x = none → H dx = none → dx ≠ x → spInitR K C CE A (.ref x :: (vs ++ [])) (upd (upd H dx (.own x)) x (.ins C dx [])) (fun v H2 => v = .non ∧ Q (.ref x) H2) E := fun x dx hx hdx hne => by
  rw [List.append_nil]
  have gx : G x = none := by
    cases e : G x with
    | none => rfl
    | some u =>
      rw [k.ex x u e] at hx
      cases hx
  have eH : ∀ a u, H a = some u → (upd (upd H dx (.own x)) x (.ins C dx [])) a = some u := fun a u e => by
    rw [upd_ne (ne_of_none e hx), upd_ne (ne_of_none e hdx)]
    exact e
  refine ⟨G, x, dx, ds, vs, b, F, rfl, ⟨fun a u e => eH a u (k.ex a u e), upd_same, fun a ha => by rw [ha]; exact gx⟩, rr, ha, fun e G2 H2 fs s => hE e _ H2 (stp_made k hx hdx s), fun e fsd er G2 H2 fs s fl => ⟨rfl, ?_⟩⟩
  have st := stp_made k hx hdx s
  have g2x : G2 x = none := by
    cases e : G2 x with
    | none => rfl
    | some u =>
      rcases s.nw x u e with z | z
      · rw [gx] at z
        cases z
      · rw [upd_same] at z
        cases z
  exact q e _ (.obj C fsd) _ H2 st ⟨fsd, rfl, er⟩ (.obj upd_same (fl.mono (Ex.new g2x)))
theorem v_makeR {A : InitQ} {ds : List Dat} {F : List (Str × Dat) → Prop} {E : XK} (h : EvAX W K tA Γ ds) (ha : A ds true F) : Ev W K (tMake C (spInitR K C CE A) [] E tA) Γ fun d => ∃ fsd, d = .obj C fsd ∧ F fsd := fun σ G H n k Q q =>
  h σ G H n k _ fun vs ds' G2 H2 s e r => by
    subst e
    exact make_runR (s.ok k) r ha (fun e => nomatch e) fun _ => q.step s
/-- making, as a statement in a try, that fails -/
theorem g_dropMakeF {A : InitQ} {EE : L2.St → XK} {ds : List Dat} {F : List (Str × Dat) → Prop} (h : EvAX W K tA Γ ds) (ha : A ds false F) (S : S4 W K G1 G0 H0 Γ O σ G H) (k : ∀ G2 H2, S4 W K G1 G0 H0 Γ O σ G2 H2 → EE σ (.ref CE) none H2) :
    tDrop (tMakeS C (spInitR K C CE A) EE tA) D σ H := h σ G H S.env S.ok _ fun vs ds' G2 H2 s e rr => by
  subst e
  have S2 := S.step s
  exact make_runR (C := C) (CE := CE) (Q := fun _ H1 => D.nx σ H1) (E := EE σ) S2.ok rr ha (fun _ G3 H3 s3 => k G3 H3 (S2.step s3)) fun e => nomatch e
end
end Ly

set_option maxHeartbeats 4000000
/-! # d.setdefault(k, x) with tuples as keys; dicts with ints as keys, as data -/
namespace L2
open PySem PySem.Spec PyProof.Rows
section
variable {X : Cx} {pins : List (Addr × Obj)} {σ : St} {H : Hp} {s : Shared} {a b : Addr} {k : List Key} {u r : Value} {d : V} {A : Around} {E : Value → Shared → Prop}
theorem d_setdT {kvs : List (List Key × V)} {Q : Value → Shared → Prop} (hu : A.units + 1 < cLine) (I : Inv X pins σ H s) (e : H a = some (.dT kvs)) (eb : H b = some (.tup (k.map kV))) (rv : RelV d r) (l : kvs.length < sizeLine)
    (h1 : ∀ v, valV kvs k = some v → ∀ (w' : Value) (s' : Shared), Inv X pins σ H s' → RelV v w' → Q w' s') (h2 : valV kvs k = none → ∀ (w' : Value) (s' : Shared), Inv X pins σ (upd H a (.dT (putK kvs k d))) s' → RelV d w' → Q w' s') :
    wpAny (model X.prog X.w) A (call (.builtin "dict.setdefault") [.ref a, .ref b, r]) Q E s := by
  obtain ⟨z, hd, xs, rel, dd⟩ := dt_of I.hok e
  have hz : xs.length ≤ sizeLine := by rw [← Paired.length rel]; exact z
  have hl : (putK kvs k d).length ≤ sizeLine := by have := length_putK kvs k d; omega
  have q := rel.val k
  refine call_setdefault_heap (hsz := hz) (tupleKind_room_in1 hu) (key_of I.hok eb) hd dd (fun p hp => ?_) fun hn h' dd' hs => ?_
  · rw [hp] at q
    cases q0 : valV kvs k with
    | none =>
      rw [q0] at q
      exact (show False from q).elim
    | some v0 =>
      rw [q0] at q
      exact h1 v0 q0 _ _ (I.tok _) q
  · rw [hn] at q
    cases q0 : valV kvs k with
    | some v0 =>
      rw [q0] at q
      exact (show False from q).elim
    | none =>
      refine h2 q0 _ _ ?_ rv
      obtain ⟨o, es, ep, hq, h2', h3, h4, _, h5⟩ := dd'
      refine d_write I (by rw [e]; exact True.intro) hs ⟨o, hq⟩ ⟨hl, hd, _, (rel.put k eb rv).keeps fun c ys ec => ?_, o, es, ep, hq, h2', h3, h4, h5⟩
      rw [upd_ne (ne_of ec e (fun z => nomatch z))]
      exact ec
end
def tDSetT (td ty tx : TE) : TE := fun σ H Q => td σ H fun x H1 => ∃ a, x = .ref a ∧ IsD H1 a ∧ ty σ H1 fun y H2 => tx σ H2 fun z H3 => ∃ (kvs : List (List Key × V)) (k : List Key) (b : Addr), H3 a = some (.dT kvs) ∧ y = .ref b ∧ H3 b = some (.tup (k.map kV)) ∧ kvs.length < sizeLine ∧
  (∀ v, valV kvs k = some v → Q v H3) ∧ (valV kvs k = none → Q z (upd H3 a (.dT (putK kvs k z))))
section
variable {X : Cx} {o e f : Expr} {apos cpos : Pos} {td ty tx : TE}
theorem pe_dsetT (hu : X.A.units + 1 < cLine) (ho : PE X o td) (he : PE X e ty) (hf : PE X f tx) (m : M2 X o "setdefault" apos e f cpos) : PE X (.Call (.Attribute o "setdefault" apos) [e, f] [] cpos) (tDSetT td ty tx) := by
  refine ⟨fun pins s σ H Q I h => ?_⟩
  refine wpAny_Call_method m.base m.few m.line PySem.F.plainAttrs_dict PySem.F.slot_dict_setdefault PySem.F.type_dict_setdefault (thn (ho.run pins s σ H _ I h) fun u s1 ⟨x, H1, I1, rx, a, ex, d, q1⟩ => ?_)
  subst ex
  obtain rfl : u = Value.ref a := rx
  obtain ⟨t1, t2, _⟩ := isD_at I1 d
  refine ⟨t1, t2, ?_⟩
  rw [m.trees]
  refine Calls.callWith_builtin rfl (Calls.evalArgs_plain (Calls.spliced_cons (thn (he.run pins s1 σ H1 _ I1 q1) fun iv s2 ⟨y, H2, I2, ry, q2⟩ =>
    Calls.spliced_cons (thn (hf.run pins s2 σ H2 _ I2 q2) fun fv s3 ⟨z, H3, I3, rz, kvs, k, b, ea, ey, eb, hl, q3, q4⟩ => Calls.spliced_nil ?_))))
  subst ey
  cases (show iv = Value.ref b from ry)
  exact d_setdT hu I3 ea eb rz hl (fun v hv w' s4 I4 rw' => ⟨v, _, I4, rw', q3 v hv⟩) fun hn w' s4 I4 rw' => ⟨z, _, I4, rw', q4 hn⟩
end
end L2

set_option maxHeartbeats 4000000
/-! # an object in the making with private parts: dicts and lists that its methods fill -/
namespace Ly
open PySem L2 PySem.Spec PyProof.Rows
def WM (x C dx : Addr) (fs : List (Str × V)) (ps : List (Addr × HO)) : Wd where
  m := fun a => a = x ∨ a ∈ ps.map Prod.fst
  I := fun H => (x :: ps.map Prod.fst).Nodup ∧ H x = some (.ins C dx fs) ∧ ∀ p ∈ ps, H p.1 = some p.2
  loc := fun h e => ⟨h.1, by rw [e x (.inl rfl)]; exact h.2.1, fun p hp => by rw [e p.1 (.inr (List.mem_map.mpr ⟨p, hp, rfl⟩))]; exact h.2.2 p hp⟩
  tr := fun h hm => by
    rcases hm with rfl | hm
    · exact ⟨_, h.2.1⟩
    · obtain ⟨p, hp, rfl⟩ := List.mem_map.mp hm
      exact ⟨_, h.2.2 p hp⟩
def setP (ps : List (Addr × HO)) (a : Addr) (o : HO) : List (Addr × HO) := ps.map fun p => if p.1 = a then (p.1, o) else p
theorem setP_keys (ps : List (Addr × HO)) (a : Addr) (o : HO) : (setP ps a o).map Prod.fst = ps.map Prod.fst := by
  unfold setP
  rw [List.map_map]
  refine List.map_congr_left fun p _ => ?_
  show (if p.1 = a then (p.1, o) else p).1 = p.1
  split <;> rfl
def addP (G : Hp) (ps : List (Addr × HO)) : Hp := fun a => match ps.find? (fun p => decide (p.1 = a)) with
  | some p => some p.2
  | none => G a
section
variable {K : PySem.W.Frag} {Γ : List (Option Dat)} {G1 G0 H0 G H : Hp} {σ : L2.St} {x C dx : Addr} {fs : List (Str × V)} {ps : List (Addr × HO)}
theorem S4.toQ (S : S4 (WI x C dx fs) K G1 G0 H0 Γ [] σ G H) : S4 (WM x C dx fs []) K G1 G0 H0 Γ [] σ G H :=
  ⟨S.env, ⟨S.ok.ex, ⟨by simp, S.ok.inv, fun _ h => nomatch h⟩, fun a ha => by
    rcases ha with rfl | ha
    · exact S.ok.off _ rfl
    · cases ha⟩, ⟨S.stp.gg, S.stp.gh, fun a o hm => S.stp.hh a o fun z => hm (.inl z), S.stp.nw, ⟨by simp, S.ok.inv, fun _ h => nomatch h⟩⟩, (fun _ _ h => nomatch h), List.nodup_nil, S.fr⟩
theorem S4.free (S : S4 (WM x C dx fs ps) K G1 G0 H0 Γ [] σ G H) {p : Addr} (hp : H p = none) : H0 p = none ∧ p ≠ x ∧ p ∉ ps.map Prod.fst ∧ G p = none := by
  obtain ⟨_, hx, hps⟩ := S.ok.inv
  have h1 : p ≠ x := fun e => by rw [e, hx] at hp; cases hp
  have h2 : p ∉ ps.map Prod.fst := fun h => by
    obtain ⟨q, hq, e⟩ := List.mem_map.mp h
    rw [← e, hps q hq] at hp
    cases hp
  refine ⟨?_, h1, h2, ?_⟩
  · cases e : H0 p with
    | none => rfl
    | some u =>
      have := S.stp.hh p u (fun z => by rcases z with z | z; exact h1 z; exact h2 z) e
      rw [this] at hp
      cases hp
  · cases e : G p with
    | none => rfl
    | some u =>
      rw [S.ok.ex p u e] at hp
      cases hp
/-- a new part, told by a field -/
theorem S4.newPart {p : Addr} {o : HO} {f : Str} (S : S4 (WM x C dx fs ps) K G1 G0 H0 Γ [] σ G H) (hp : H p = none) :
    S4 (WM x C dx (putF f (.ref p) fs) ((p, o) :: ps)) K G1 G0 H0 Γ [] σ G (upd (upd H p o) x (.ins C dx (putF f (.ref p) fs))) := by
  obtain ⟨h0, h1, h2, h3⟩ := S.free hp
  obtain ⟨nd, hx, hps⟩ := S.ok.inv
  have gx : G x = none := S.ok.off x (.inl rfl)
  have inv : (WM x C dx (putF f (.ref p) fs) ((p, o) :: ps)).I (upd (upd H p o) x (.ins C dx (putF f (.ref p) fs))) := by
    refine ⟨?_, upd_same, fun q hq => ?_⟩
    · rw [List.map_cons]
      rw [List.nodup_cons] at nd ⊢
      refine ⟨?_, List.nodup_cons.mpr ⟨h2, nd.2⟩⟩
      intro h
      rcases List.mem_cons.mp h with e | h
      · exact h1 e.symm
      · exact nd.1 h
    · rcases List.mem_cons.mp hq with rfl | hq
      · show upd (upd H p o) x _ p = some o
        rw [upd_ne h1, upd_same]
      · have k1 : q.1 ≠ x := fun e => (List.nodup_cons.mp nd).1 (e ▸ List.mem_map.mpr ⟨q, hq, rfl⟩)
        have k2 : q.1 ≠ p := fun e => h2 (e ▸ List.mem_map.mpr ⟨q, hq, rfl⟩)
        rw [upd_ne k1, upd_ne k2]
        exact hps q hq
  have ex : Ex G (upd (upd H p o) x (.ins C dx (putF f (.ref p) fs))) := fun a u e => by
    rw [upd_ne (ne_of_none e gx), upd_ne (ne_of_none e h3)]
    exact S.ok.ex a u e
  refine ⟨S.env, ⟨ex, inv, fun a ha => ?_⟩, ⟨S.stp.gg, ex, fun a u hm e => ?_, S.stp.nw, inv⟩, (fun _ _ h => nomatch h), List.nodup_nil, S.fr⟩
  · rcases ha with rfl | ha
    · exact gx
    · rcases List.mem_cons.mp ha with rfl | ha
      · exact h3
      · exact S.ok.off a (.inr ha)
  · have k1 : a ≠ x := fun z => hm (.inl z)
    have k2 : a ≠ p := fun z => hm (.inr (z ▸ List.mem_cons_self))
    rw [upd_ne k1, upd_ne k2]
    exact S.stp.hh a u (fun z => by
      rcases z with z | z
      · exact k1 z
      · exact hm (.inr (List.mem_cons_of_mem _ z))) e
/-- a part is changed -/
theorem S4.setPart {a : Addr} {o o' : HO} (hm : (a, o) ∈ ps) (S : S4 (WM x C dx fs ps) K G1 G0 H0 Γ [] σ G H) : S4 (WM x C dx fs (setP ps a o')) K G1 G0 H0 Γ [] σ G (upd H a o') := by
  obtain ⟨nd, hx, hps⟩ := S.ok.inv
  have ka : a ∈ ps.map Prod.fst := List.mem_map.mpr ⟨_, hm, rfl⟩
  have ax : a ≠ x := fun e => (List.nodup_cons.mp nd).1 (e ▸ ka)
  have ga : G a = none := S.ok.off a (.inr ka)
  have inv : (WM x C dx fs (setP ps a o')).I (upd H a o') := by
    refine ⟨by rw [setP_keys]; exact nd, by rw [upd_ne ax.symm]; exact hx, fun q hq => ?_⟩
    obtain ⟨p, hp, e⟩ := List.mem_map.mp hq
    by_cases h : p.1 = a
    · rw [if_pos h] at e
      rw [← e]
      show upd H a o' p.1 = some o'
      rw [h, upd_same]
    · rw [if_neg h] at e
      rw [← e, upd_ne h]
      exact hps p hp
  have ex : Ex G (upd H a o') := fun b u e => by
    rw [upd_ne (ne_of_none e ga)]
    exact S.ok.ex b u e
  refine ⟨S.env, ⟨ex, inv, fun b hb => S.ok.off b ?_⟩, ⟨S.stp.gg, ex, fun b u hb e => ?_, S.stp.nw, inv⟩, (fun _ _ h => nomatch h), List.nodup_nil, S.fr⟩
  · rcases hb with hb | hb
    · exact .inl hb
    · rw [setP_keys] at hb
      exact .inr hb
  · have hb2 : ¬ (WM x C dx fs ps).m b := fun z => hb (by
      rcases z with z | z
      · exact .inl z
      · exact .inr (by rw [setP_keys]; exact z))
    have k : b ≠ a := fun z => hb2 (.inr (z ▸ ka))
    rw [upd_ne k]
    exact S.stp.hh b u hb2 e
/-- at the end: the parts are known -/
theorem S4.frozen (S : S4 (WM x C dx fs ps) K G1 G0 H0 Γ [] σ G H) (h0 : ∀ p ∈ ps, H0 p.1 = none) : Stp (WI x C dx fs) G0 H0 (addP G ps) H ∧ Ex G (addP G ps) ∧ ∀ p ∈ ps, addP G ps p.1 = some p.2 := by
  obtain ⟨nd, hx, hps⟩ := S.ok.inv
  have gone : ∀ {a : Addr}, a ∉ ps.map Prod.fst → addP G ps a = G a := fun {a} h => by
    unfold addP
    rw [List.find?_eq_none.mpr fun p hp e => h (List.mem_map.mpr ⟨p, hp, of_decide_eq_true e⟩)]
  have ex : Ex G (addP G ps) := fun a u e => by
    rw [gone fun h => ?_]
    · exact e
    · rw [S.ok.off a (.inr h)] at e
      cases e
  have here : ∀ p ∈ ps, addP G ps p.1 = some p.2 := fun p hp => by
    unfold addP
    cases e : ps.find? (fun q => decide (q.1 = p.1)) with
    | none =>
      rw [List.find?_eq_none] at e
      exact absurd (decide_eq_true rfl) (e p hp)
    | some q =>
      have h1 := List.mem_of_find?_eq_some e
      have h2 : q.1 = p.1 := by simpa using List.find?_some e
      have a1 := hps p hp
      have a2 := hps q h1
      rw [h2, a1] at a2
      exact a2.symm
  refine ⟨⟨S.stp.gg.trans ex, fun a u e => ?_, fun a u hm e => ?_, fun a u e => ?_, hx⟩, ex, here⟩
  · by_cases h : a ∈ ps.map Prod.fst
    · obtain ⟨p, hp, rfl⟩ := List.mem_map.mp h
      rw [here p hp] at e
      cases e
      exact hps p hp
    · rw [gone h] at e
      exact S.ok.ex a u e
  · by_cases h : a ∈ ps.map Prod.fst
    · obtain ⟨p, hp, rfl⟩ := List.mem_map.mp h
      rw [h0 p hp] at e
      cases e
    · exact S.stp.hh a u (fun z => by
        rcases z with z | z
        · exact hm z
        · exact h z) e
  · by_cases h : a ∈ ps.map Prod.fst
    · obtain ⟨p, hp, rfl⟩ := List.mem_map.mp h
      exact .inr (h0 p hp)
    · rw [gone h] at e
      exact S.stp.nw a u e
/-- what a look-up gives, over ints -/
theorem lkp_dT {kvs : List (List Int × Int)} {k : List Int} : valV (kvs.map fun p => (iK p.1, V.int p.2)) (iK k) = (kvs.find? fun p => decide (p.1 = k)).map fun p => V.int p.2 := by
  unfold valV
  rw [List.find?_map, Option.map_map]
  congr 1
  congr 1
  funext p
  exact decide_eq_decide.mpr ⟨fun h => iK_inj h, fun h => by show iK p.1 = iK k; rw [h]⟩
theorem put_new {κ : Type} [DecidableEq κ] {kvs : List (κ × V)} {k : κ} {v : V} (h : valV kvs k = none) : putK kvs k v = kvs ++ [(k, v)] := by
  unfold putK
  rw [if_neg]
  intro h2
  rw [List.any_eq_true] at h2
  obtain ⟨e, he, e2⟩ := h2
  unfold valV at h
  rw [Option.map_eq_none_iff, List.find?_eq_none] at h
  exact h e he e2
theorem lkp_dK {kvs : List (Int × Int)} {k : Int} : valV (kvs.map fun p => ((Sum.inl p.1 : Key), V.int p.2)) (Sum.inl k) = (kvs.find? fun p => decide (p.1 = k)).map fun p => V.int p.2 := by
  unfold valV
  rw [List.find?_map, Option.map_map]
  congr 1
  congr 1
  funext p
  exact decide_eq_decide.mpr ⟨fun h => Sum.inl.inj h, fun h => by show (Sum.inl p.1 : Key) = Sum.inl k; rw [h]⟩
end
end Ly

set_option maxHeartbeats 4000000
/-! enumerate over a tuple -/
namespace PySem
open Sem (wp)
open AutoSeq1 (wpAny_loadPart')
theorem meets_enumerate_newV {v : Value} {o : Obj} {H : Heap → Prop} (B : Begins v o H) :
    Meets (Builtin.«enumerate.__new__» ⟨[.type "enumerate", v], []⟩) (fun _ R s => H s.heap ∧
      R (.ok (.ret (.ref (s.heap.push o).objs.size))) { s with heap := (s.heap.push o).push { cls := .type "enumerate", data := .fields #[.none, .bool false, .ref s.heap.objs.size, rawInt 0, .none, .none] } }) :=
  .of_wp fun prog w A R s h => by
    obtain ⟨hp, g, d, tk, os⟩ := s; obtain ⟨h1, h⟩ := h
    have hsub := sub_enumerate
    have q1 : ∀ {A' : Around} {E : Value → Shared → Prop} {Q : Value → Shared → Prop}, Q (.ref hp.objs.size) ⟨hp.push o, g, d, tk, os⟩ → wpAny (model prog w) A' (pyIter v) Q E ⟨hp, g, d, tk, os⟩ :=
      fun q => B.iter prog w _ _ ⟨hp, g, d, tk, os⟩ _ h1 q
    wp_walk using q1
    refine wpAny_stack_any fun st => wpAny_pure ?_
    split
    · rename_i c _ _ _ _ _
      cases (c == Value.type "enumerate")
      · wp_walk using q1
        exact ⟨_, rfl, h⟩
      · wp_walk using q1
        exact ⟨_, rfl, h⟩
    · wp_walk using q1
      exact ⟨_, rfl, h⟩
section
variable {prog : Program} {w : World} {A : Around} {E : Value → Shared → Prop} {s : Shared}
theorem enum_begins1 {v : Value} {o : Obj} {H : Heap → Prop} {Q : Value → Shared → Prop} (B : Begins v o H) (h1 : H s.heap)
    (h : ∀ h', IsEnum h' (s.heap.objs.size + 1) s.heap.objs.size 0 .none → h'.get? s.heap.objs.size = some o → h'.objs.size = s.heap.objs.size + 2 →
      (∀ b o, s.heap.get? b = some o → h'.get? b = some o) → Q (.ref (s.heap.objs.size + 1)) { s with heap := h' }) :
    wpAny (model prog w) A (call (.type "enumerate") [v]) Q E s := by
  refine callType_new F.called_enumerate (by decide) (F.typeCall_enumerate_1 _) (F.newCall_enumerate_1 _) (fun obj => F.args_object_init_2 obj _) F.entry_enumerate_new
    (meets_enumerate_newV B) ⟨h1, ?_⟩
  have hz : (s.heap.push o).objs.size = s.heap.objs.size + 1 := Heap.size_push ..
  show _ ∧ _
  rw [hz]
  have he : IsEnum ((s.heap.push o).push { cls := .type "enumerate", data := .fields #[.none, .bool false, .ref s.heap.objs.size, rawInt 0, .none, .none] }) (s.heap.objs.size + 1) s.heap.objs.size 0 .none := by
    have := Heap.get?_push_size (s.heap.push o) (o := { cls := .type "enumerate", data := .fields #[.none, .bool false, .ref s.heap.objs.size, rawInt 0, .none, .none] }) rfl
    rw [hz] at this; exact this
  refine ⟨⟨_, he, rfl⟩, h _ he (Heap.get?_push_of_some _ (Heap.get?_push_size _ B.free)) (by rw [Heap.size_push, hz]) fun b o x => Heap.get?_push_of_some _ (Heap.get?_push_of_some _ x)⟩
theorem enum_end_tuple {e it l : Addr} {i : Nat} {items : Array Value} {old : Value} {Q : Option Value → Shared → Prop} (hh : A.handled = none)
    (he : IsEnum s.heap e it i old) (hit : s.heap.IsTupleIter it l i) (hl : s.heap.IsTuple l items) (hx : items[i]? = none)
    (hQ : ∀ h', Heap.ExtBut it s.heap h' → Q none { s with heap := h' }) : wpAny (model prog w) A (pyNext (.ref e)) Q E s := by
  have hT : s.TypeIs (.ref e) "enumerate" := ⟨_, he, rfl⟩
  unfold pyNext
  refine wpAny_bind (wpAny_attempt (wpAny_callSpecial?_slot (name := Str.ofString "__next__") hT F.slot_enumerate_next
    (wpAny_call_entry F.slot_enumerate_next hT F.entry_enumerate_next ?_ (F.args_enumerate_next_1 _))))
  show wpAny _ _ (field (.ref e) 2 >>= _) _ _ _
  refine wpAny_bind (wpAny_field he rfl (x := .ref it) rfl ?_)
  refine wpAny_bind (wpAny_nextOf_tuple_end hh hit hl hx fun h' x he' hx' => ?_)
  obtain ⟨o, ho, hc⟩ := hx'
  refine wpAny_bind (wpAny_isInstance (T := "StopIteration") (b := true) ⟨o, ho, hc⟩ isSubtype_stop ?_)
  exact wpAny_pure (hQ _ he')
end
end PySem
namespace L2
open PySem PySem.Spec PyProof.Rows
/-- the tuple at a, each item in a new pair with its number -/
def IteT (K : PySem.W.Frag) (a : Addr) : It :=
  ⟨fun i H => ∃ (xs : List V) (x : V), SqT K H a xs ∧ xs[i]? = some x, fun i H v H' => ∃ T x, v = .ref T ∧ H T = none ∧ H' = upd H T (.tup [.int (i : Nat), x]) ∧ ∀ xs, SqT K H a xs → xs[i]? = some x, fun i H => ∃ xs : List V, SqT K H a xs ∧ xs.length ≤ i⟩
theorem turn_enumT {P : Program} {w : World} {K : PySem.W.Frag} {elts : List Expr} {kk : Nat} {tpos : Pos} (a e it : Addr) :
    Turn P w K (.Tuple elts kk tpos) (IteT K a) [e, it] e (fun i h => (∃ old, IsEnum h e it ((i : Nat) : Int) old) ∧ h.IsTupleIter it a i ∧ e ≠ it) where
  mem := by simp
  obj := fun i h st b hb => by
    obtain ⟨⟨old, he⟩, ⟨o, ho, hc, hd⟩, _⟩ := st
    have e' : b = e ∨ b = it := by simpa using hb
    rcases e' with z | z
    · rw [z]; exact ⟨_, he, fun v q => nomatch q⟩
    · rw [z]; exact ⟨o, ho, fun v q => by rw [hd] at q; cases q⟩
  keep := fun i h h' st k => let ⟨⟨old, he⟩, hi, hne⟩ := st; ⟨⟨old, k e (by simp) _ he⟩, hi.at fun o q => k it (by simp) o q, hne⟩
  item := by
    intro X hP hw hK hc i pins s σ H E I hf st hg
    subst hP hw hK
    obtain ⟨⟨old, he⟩, hit, hne⟩ := st
    obtain ⟨xs, x, hq, hx⟩ := hg
    obtain ⟨its, rv, p, hz⟩ := I.tuple hq
    obtain ⟨u, hu, ru⟩ := rv.get hx
    have hel : e < s.heap.objs.size := Heap.lt_size he
    have hil : it < s.heap.objs.size := by obtain ⟨_, q, _⟩ := hit; exact Heap.lt_size q
    have pt : s.heap.IsTuple a its.toArray := p
    have hai : a ≠ it := fun z => by
      obtain ⟨o, ho, hcc, _⟩ := pt
      obtain ⟨o', ho', hc', _⟩ := hit
      rw [z] at ho
      rw [ho] at ho'
      cases ho'
      rw [hcc] at hc'
      exact absurd hc' (by decide)
    have hae : e ≠ a := fun z => by
      obtain ⟨o, ho, hcc, _⟩ := pt
      rw [← z] at ho
      have := he.symm.trans ho
      cases this
      exact absurd (Value.type.inj hcc) (by decide)
    have hui : its.toArray[i]? = some u := by simpa using hu
    have hlt : i < its.toArray.size := by
      rcases Nat.lt_or_ge i its.toArray.size with z | z
      · exact z
      · rw [Array.getElem?_eq_none z] at hui; cases hui
    refine wpAny_pyNext_enum_itemD (Draws.tuple (A := X.A.in1) (show X.A.in1.handled = none from I.ok.hd hc) it a hai its.toArray) he ⟨hit, pt⟩ hlt hne (by simp [hne, hae]) fun x' h' tk hPx ho hSt hT hsz hk => ?_
    obtain ⟨hit', _⟩ := hSt
    have ex : x' = u := by
      have hp : its.toArray[i]? = some x' := hPx
      rw [hui] at hp
      exact (Option.some.inj hp).symm
    subst ex
    refine ⟨_, rfl, wpAny_letOwnedTupleGo_enum (s := { s with heap := h', toks := tk + 1 }) ho fun h'' he' sb => ?_⟩
    have hT2 : h''.get? s.heap.objs.size = some { cls := .type "tuple", data := .seq #[.int i tk, x'] } := (sb.2 _ (Nat.ne_of_gt hel)).trans hT
    have new : ObjOk X.prog X.w (upd H s.heap.objs.size (.tup [.int (i : Nat), x])) h'' s.heap.objs.size (.tup [.int (i : Nat), x]) :=
      ⟨by show 2 ≤ sizeLine; decide, [.int i tk, x'], .cons ⟨_, rfl⟩ (.cons ru .nil), ⟨_, hT2, rfl, _, rfl⟩⟩
    have I1 : Inv X pins σ (upd H s.heap.objs.size (.tup [.int (i : Nat), x])) { s with heap := h'', toks := tk + 1 } :=
      I.turnedNew (ch := [e, it]) (fun b ob hb q => (sb.2 b (fun z => hb (by simp [z]))).trans (hk b ob (fun z => hb (by simp [z])) (fun z => hb (by simp [z])) q)) hf (Nat.le_refl _) new
    refine ⟨.ref s.heap.objs.size, _, I1, rfl, ⟨_, x, rfl, I.hok.fresh (Nat.le_refl _), rfl, fun ys hy => by rw [I.tuple_inj hy hq]; exact hx⟩, ⟨⟨x', ?_⟩, hit'.at fun o q => (sb.2 it (Ne.symm hne)).trans q, hne⟩, fun b hb => ?_⟩
    · have e1 : ((i + 1 : Nat) : Int) = (i : Int) + 1 := by omega
      rw [e1]; exact he'
    · have hb' : b < s.heap.objs.size := by
        have e' : b = e ∨ b = it := by simpa using hb
        rcases e' with z | z
        · rw [z]; exact hel
        · rw [z]; exact hil
      rw [upd_ne (Nat.ne_of_lt hb')]
      exact (hf b hb).1
  done := by
    intro X hP hw hK hc i pins s σ H E I hf st hg
    subst hP hw hK
    obtain ⟨⟨old, he⟩, hit, hne⟩ := st
    obtain ⟨xs, hq, hx⟩ := hg
    obtain ⟨its, rv, p, hz⟩ := I.tuple hq
    obtain ⟨f0, f1, f2, f3, f4, f5⟩ := hf it (by simp)
    have hl := rv.length
    have pt : s.heap.IsTuple a its.toArray := p
    exact enum_end_tuple (I.ok.hd hc) he hit pt (by simp; omega) fun h' eb => ⟨rfl, I.turned (t' := s.toks) (fun b o hb q => eb b o hb q) f0 f1 f3 f4 f5⟩
  self := fun A i s Q E st h => let ⟨⟨_, he⟩, _⟩ := st; wpAny_pyIter_enum he h
def iEnumT (K : PySem.W.Frag) (ta : TA) : TI := fun σ H R => ta σ H fun vs H1 => ∃ a xs, vs = [.ref a] ∧ SqT K H1 a xs ∧ R (IteT K a) H1
theorem pi_enumT {X : Cx} {e : Expr} {ta : TA} {p pos tpos : Pos} {elts : List Expr} {kk : Nat} (hg : Gl X "enumerate") (hm : X.mg "enumerate" = none) (ha : PA X [e] ta) (hs : starEach [e] X.env = [(false, eval e X.env)] := by rfl) :
    PI X (.Tuple elts kk tpos) (.Call (.Name "enumerate" p) [e] [] pos) (iEnumT X.K ta) := by
  refine ⟨fun pins s σ H R I h => ?_⟩
  refine Call_ (ld_blt I hg hm boot_enumerate (PyProof.Rows.callWith_type1 (thn (ha.run pos pins s σ H _ I h) fun us s1 ⟨vs, H1, I1, r1, q1⟩ => ?_) hs rfl))
  obtain ⟨a, xs, ex, hq, q⟩ := q1
  subst ex
  cases r1 with
  | cons r rr =>
    cases rr
    cases r
    obtain ⟨its, rv, p', hz⟩ := I1.tuple hq
    have pt : s1.heap.IsTuple a its.toArray := p'
    refine enum_begins1 (begins_tuple a its.toArray) pt fun h' he hit hsz hk => wpAny_pyIter_enum he ?_
    have I2 : Inv X pins σ H1 { s1 with heap := h' } := I1.kept (t' := s1.toks) hk
    refine ⟨s1.heap.objs.size + 1, [s1.heap.objs.size + 1, s1.heap.objs.size], _, _, H1, rfl, I2, turn_enumT a (s1.heap.objs.size + 1) s1.heap.objs.size, ⟨⟨.none, he⟩, ⟨_, hit, rfl, rfl⟩, Nat.succ_ne_self _⟩, fun b hb => ?_, q⟩
    have e' : b = s1.heap.objs.size + 1 ∨ b = s1.heap.objs.size := by simpa using hb
    have hle : s1.heap.objs.size ≤ b := by
      rcases e' with z | z
      · rw [z]; exact Nat.le_add_right _ _
      · rw [z]; exact Nat.le_refl _
    exact I1.fpOk hle (I1.hok.fresh hle)
end L2

set_option maxHeartbeats 4000000
/-! # a tree of left sides -/
namespace Tri
def lk {α : Type} [DecidableEq α] (kv : List (α × Int)) (k : α) : Option Int := (kv.find? fun p => decide (p.1 = k)).map (·.2)
theorem lk_app {α : Type} [DecidableEq α] (kv : List (α × Int)) (k k2 : α) (v : Int) : lk (kv ++ [(k, v)]) k2 = match lk kv k2 with | some x => some x | none => if k = k2 then some v else none := by
  unfold lk
  rw [List.find?_append]
  cases kv.find? (fun p => decide (p.1 = k2)) with
  | some p => rfl
  | none =>
    by_cases h : k = k2
    · simp [h]
    · simp [h]
structure T where
  nn : List (List Int × Int)
  en : List (Int × Int)
  ms : List Int
def T0 : T := ⟨[], [], [0]⟩
/-- one symbol of a left side: the node, the tree afterwards -/
def one (n : Int) (t : T) (node sym : Int) : T × Int := match lk t.nn [node, sym] with
  | some c => (t, c)
  | none => (⟨t.nn ++ [([node, sym], (t.ms.length : Int))], t.en, t.ms ++ [n]⟩, (t.ms.length : Int))
def endn (n : Int) (t : T) (node : Int) : T := match lk t.en node with
  | some _ => t
  | none => ⟨t.nn, t.en ++ [(node, n)], t.ms⟩
/-- how the tree stands: ls the left sides that stand in it, cur what of the next one does -/
structure Tr (ls : List (List Int)) (cur : List Int) (t : T) (ps : List (List Int)) : Prop where
  len : ps.length = t.ms.length
  zero : ps[0]? = some []
  nd : ps.Nodup
  mem : ∀ p, p ∈ ps ↔ p = [] ∨ (∃ l ∈ ls, p <+: l) ∨ p <+: cur
  nx : ∀ (i : Nat) (p : List Int) (s j : Int), ps[i]? = some p → (lk t.nn [(i : Int), s] = some j ↔ ∃ k : Nat, j = (k : Int) ∧ ps[k]? = some (p ++ [s]))
  ms : ∀ (i : Nat) (p : List Int), ps[i]? = some p → t.ms[i]? = some (((ls.findIdx? fun l => decide (p <+: l)).getD ls.length : Nat) : Int)
  en : ∀ (i : Nat) (p : List Int), ps[i]? = some p → lk t.en (i : Int) = (ls.findIdx? fun l => decide (l = p)).map fun r : Nat => (r : Int)
  far : ∀ (j : Nat) (s : Int), ps.length ≤ j → lk t.nn [(j : Int), s] = none
  farE : ∀ j : Nat, ps.length ≤ j → lk t.en (j : Int) = none
theorem Tr.start : Tr [] [] T0 [[]] := by
  refine ⟨rfl, rfl, by simp, fun p => by simp, fun i p s j h => ?_, fun i p h => ?_, fun i p h => rfl, fun _ _ _ => rfl, fun _ _ => rfl⟩
  · have hi : i = 0 := by
      cases i with
      | zero => rfl
      | succ i => simp at h
    subst hi
    have hp : p = [] := by simpa using h.symm
    subst hp
    constructor
    · intro h
      cases h
    · rintro ⟨k, rfl, h⟩
      cases k with
      | zero => simp at h
      | succ k => simp at h
  · have hi : i = 0 := by
      cases i with
      | zero => rfl
      | succ i => simp at h
    subst hi
    rfl
theorem at_inj {ps : List (List Int)} (nd : ps.Nodup) {i j : Nat} {p : List Int} (h1 : ps[i]? = some p) (h2 : ps[j]? = some p) : i = j :=
  (List.getElem?_inj (List.getElem?_eq_some_iff.mp h1).1 nd).mp (h1.trans h2.symm)
/-- one symbol more -/
theorem Tr.one {ls : List (List Int)} {cur : List Int} {t : T} {ps : List (List Int)} {i : Nat} (h : Tr ls cur t ps) (hi : ps[i]? = some cur) (s : Int) :
    ∃ (ps' : List (List Int)) (k : Nat), Tr ls (cur ++ [s]) (Tri.one (ls.length : Int) t (i : Int) s).1 ps' ∧ (Tri.one (ls.length : Int) t (i : Int) s).2 = (k : Int) ∧ ps'[k]? = some (cur ++ [s]) := by
  have old : cur <+: cur ++ [s] := List.prefix_append _ _
  have pre : ∀ p : List Int, p <+: cur ++ [s] ↔ p <+: cur ∨ p = cur ++ [s] := fun p => List.prefix_concat_iff.trans or_comm
  cases e : lk t.nn [(i : Int), s] with
  | some c =>
    obtain ⟨k, rfl, hk⟩ := (h.nx i cur s c hi).mp e
    have e1 : Tri.one (ls.length : Int) t (i : Int) s = (t, (k : Int)) := by
      unfold Tri.one
      rw [e]
    rw [e1]
    refine ⟨ps, k, ⟨h.len, h.zero, h.nd, fun p => ?_, h.nx, h.ms, h.en, h.far, h.farE⟩, rfl, hk⟩
    rw [h.mem p, pre p]
    constructor
    · rintro (a | a | a)
      · exact .inl a
      · exact .inr (.inl a)
      · exact .inr (.inr (.inl a))
    · rintro (a | a | a | a)
      · exact .inl a
      · exact .inr (.inl a)
      · exact .inr (.inr a)
      · rw [a]
        exact (h.mem _).mp (List.mem_of_getElem? hk)
  | none =>
    have hno : cur ++ [s] ∉ ps := fun hm => by
      obtain ⟨k, hk⟩ := List.getElem?_of_mem hm
      have := (h.nx i cur s (k : Int) hi).mpr ⟨k, rfl, hk⟩
      rw [e] at this
      cases this
    have hnl : ∀ l ∈ ls, ¬ cur ++ [s] <+: l := fun l hl hp => hno ((h.mem _).mpr (.inr (.inl ⟨l, hl, hp⟩)))
    have e1 : Tri.one (ls.length : Int) t (i : Int) s = (⟨t.nn ++ [([(i : Int), s], (t.ms.length : Int))], t.en, t.ms ++ [(ls.length : Int)]⟩, (t.ms.length : Int)) := by
      unfold Tri.one
      rw [e]
    rw [e1]
    have hlen : ps.length = t.ms.length := h.len
    have hilt : i < ps.length := (List.getElem?_eq_some_iff.mp hi).1
    have hat : ∀ {j : Nat} {p : List Int}, (ps ++ [cur ++ [s]])[j]? = some p → (ps[j]? = some p) ∨ (j = ps.length ∧ p = cur ++ [s]) := fun {j p} hj => by
      rcases Nat.lt_or_ge j ps.length with z | z
      · rw [List.getElem?_append_left z] at hj
        exact .inl hj
      · rw [List.getElem?_append_right z] at hj
        have : j - ps.length = 0 := by
          rcases Nat.eq_zero_or_pos (j - ps.length) with y | y
          · exact y
          · rw [List.getElem?_eq_none (by show 1 ≤ _; omega)] at hj
            cases hj
        rw [this] at hj
        exact .inr ⟨by omega, by simpa using hj.symm⟩
    refine ⟨ps ++ [cur ++ [s]], t.ms.length, ⟨by simp [hlen], ?_, ?_, fun p => ?_, fun j p s2 c hj => ?_, fun j p hj => ?_, fun j p hj => ?_, fun j s2 hj => ?_, fun j hj => ?_⟩, rfl, ?_⟩
    · rw [List.getElem?_append_left (by omega)]
      exact h.zero
    · rw [List.nodup_append]
      exact ⟨h.nd, by simp, fun a ha b hb => by
        have hb : b = cur ++ [s] := by simpa using hb
        rw [hb]
        exact fun z => hno (z ▸ ha)⟩
    · rw [List.mem_append, h.mem p, pre p]
      constructor
      · rintro ((a | a | a) | a)
        · exact .inl a
        · exact .inr (.inl a)
        · exact .inr (.inr (.inl a))
        · exact .inr (.inr (.inr (by simpa using a)))
      · rintro (a | a | a | a)
        · exact .inl (.inl a)
        · exact .inl (.inr (.inl a))
        · exact .inl (.inr (.inr a))
        · exact .inr (by simp [a])
    · show lk (t.nn ++ [([(i : Int), s], (t.ms.length : Int))]) [(j : Int), s2] = some c ↔ _
      rw [lk_app]
      rcases hat hj with hj1 | ⟨rfl, rfl⟩
      · have hjl : j < ps.length := (List.getElem?_eq_some_iff.mp hj1).1
        cases e2 : lk t.nn [(j : Int), s2] with
        | some x =>
          obtain ⟨k, rfl, hk⟩ := (h.nx j p s2 x hj1).mp e2
          constructor
          · intro z
            cases z
            exact ⟨k, rfl, by rw [List.getElem?_append_left (List.getElem?_eq_some_iff.mp hk).1]; exact hk⟩
          · rintro ⟨k2, rfl, hk2⟩
            rcases hat hk2 with hk2 | ⟨_, z⟩
            · rw [at_inj h.nd hk hk2]
            · exact absurd (List.mem_of_getElem? hk) (by rw [z]; exact hno)
        | none =>
          by_cases hq : [(i : Int), s] = [(j : Int), s2]
          · simp at hq
            obtain ⟨hij, rfl⟩ := hq
            have hij : i = j := by omega
            subst hij
            rw [hi] at hj1
            cases hj1
            rw [if_pos rfl]
            constructor
            · intro z
              cases z
              exact ⟨t.ms.length, rfl, by rw [List.getElem?_append_right (by omega), ← hlen, Nat.sub_self]; rfl⟩
            · rintro ⟨k, rfl, hk⟩
              rcases hat hk with hk | ⟨rfl, _⟩
              · exact absurd (List.mem_of_getElem? hk) hno
              · rw [hlen]
          · rw [if_neg hq]
            constructor
            · intro z
              cases z
            · rintro ⟨k, rfl, hk⟩
              rcases hat hk with hk | ⟨rfl, z⟩
              · have := (h.nx j p s2 (k : Int) hj1).mpr ⟨k, rfl, hk⟩
                rw [e2] at this
                cases this
              · obtain ⟨rfl, z2⟩ := List.append_inj' z rfl
                have hij := at_inj h.nd hi hj1
                subst hij
                simp at z2
                exact absurd (by rw [z2]) hq
      · rw [h.far ps.length s2 (Nat.le_refl _)]
        have hq : ¬ [(i : Int), s] = [((ps.length : Nat) : Int), s2] := fun z => by
          simp at z
          omega
        rw [if_neg hq]
        constructor
        · intro z
          cases z
        · rintro ⟨k, rfl, hk⟩
          have bad : cur ++ [s] <+: cur ++ [s] ++ [s2] := List.prefix_append _ _
          rcases hat hk with hk | ⟨_, z⟩
          · rcases (h.mem _).mp (List.mem_of_getElem? hk) with a | ⟨l, hl, a⟩ | a
            · simp at a
            · exact absurd (bad.trans a) (hnl l hl)
            · have := a.length_le
              simp at this
              omega
          · have := congrArg List.length z
            simp at this
    · show (t.ms ++ [(ls.length : Int)])[j]? = _
      rcases hat hj with hj | ⟨rfl, rfl⟩
      · rw [List.getElem?_append_left (by have := (List.getElem?_eq_some_iff.mp hj).1; omega)]
        exact h.ms j p hj
      · rw [List.getElem?_append_right (by omega), hlen, Nat.sub_self]
        rw [List.findIdx?_eq_none_iff.mpr fun l hl => by simpa using hnl l hl]
        rfl
    · rcases hat hj with hj | ⟨rfl, rfl⟩
      · exact h.en j p hj
      · rw [h.farE ps.length (Nat.le_refl _), List.findIdx?_eq_none_iff.mpr fun l hl => by
          simp only [decide_eq_false_iff_not]
          exact fun z => hnl l hl (by rw [z]; exact List.prefix_rfl)]
        rfl
    · show lk (t.nn ++ [([(i : Int), s], (t.ms.length : Int))]) [(j : Int), s2] = none
      rw [List.length_append, List.length_singleton] at hj
      rw [lk_app, h.far j s2 (by omega)]
      rw [if_neg fun z => by
        simp at z
        omega]
    · rw [List.length_append, List.length_singleton] at hj
      exact h.farE j (by omega)
    · rw [List.getElem?_append_right (by omega), hlen, Nat.sub_self]
      rfl
def word (n : Int) : T → Int → List Int → T × Int
  | t, node, [] => (t, node)
  | t, node, s :: w => word n (one n t node s).1 (one n t node s).2 w
theorem Tr.word {ls : List (List Int)} : ∀ (w : List Int) {cur : List Int} {t : T} {ps : List (List Int)} {i : Nat}, Tr ls cur t ps → ps[i]? = some cur →
    ∃ (ps' : List (List Int)) (k : Nat), Tr ls (cur ++ w) (Tri.word (ls.length : Int) t (i : Int) w).1 ps' ∧ (Tri.word (ls.length : Int) t (i : Int) w).2 = (k : Int) ∧ ps'[k]? = some (cur ++ w)
  | [], cur, t, ps, i, h, hi => ⟨ps, i, by rw [List.append_nil]; exact h, rfl, by rw [List.append_nil]; exact hi⟩
  | s :: w, cur, t, ps, i, h, hi => by
    obtain ⟨ps1, k1, h1, e1, hk1⟩ := h.one hi s
    obtain ⟨ps', k, h2, e2, hk⟩ := Tr.word w h1 hk1
    rw [List.append_assoc] at h2 hk
    have e3 : Tri.word (ls.length : Int) t (i : Int) (s :: w) = Tri.word (ls.length : Int) (Tri.one (ls.length : Int) t (i : Int) s).1 (k1 : Int) w := by
      show Tri.word (ls.length : Int) (Tri.one (ls.length : Int) t (i : Int) s).1 (Tri.one (ls.length : Int) t (i : Int) s).2 w = _
      rw [e1]
    rw [e3]
    exact ⟨ps', k, h2, e2, hk⟩
theorem idx_app (ls : List (List Int)) (l : List Int) (f : List Int → Bool) : (ls ++ [l]).findIdx? f = match ls.findIdx? f with | some r => some r | none => if f l = true then some ls.length else none := by
  rw [List.findIdx?_append]
  cases ls.findIdx? f with
  | some r => rfl
  | none =>
    by_cases h : f l = true
    · simp [h]
    · simp [h]
/-- the left side stands in it as a whole -/
theorem Tr.done {ls : List (List Int)} {l : List Int} {t : T} {ps : List (List Int)} {k : Nat} (h : Tr ls l t ps) (hk : ps[k]? = some l) : Tr (ls ++ [l]) [] (endn (ls.length : Int) t (k : Int)) ps := by
  have hkl : k < ps.length := (List.getElem?_eq_some_iff.mp hk).1
  have e1 : (endn (ls.length : Int) t (k : Int)).nn = t.nn ∧ (endn (ls.length : Int) t (k : Int)).ms = t.ms := by
    unfold endn
    cases lk t.en (k : Int) <;> exact ⟨rfl, rfl⟩
  have e2 : ∀ j : Int, lk (endn (ls.length : Int) t (k : Int)).en j = match lk t.en j with | some x => some x | none => if (k : Int) = j then some (ls.length : Int) else none := fun j => by
    unfold endn
    cases e : lk t.en (k : Int) with
    | none => exact lk_app t.en (k : Int) j (ls.length : Int)
    | some x =>
      show lk t.en j = _
      cases e3 : lk t.en j with
      | some y => rfl
      | none =>
        rw [if_neg]
        intro z
        rw [z, e3] at e
        cases e
  have nilp : ∀ p : List Int, p <+: [] ↔ p = [] := fun p => List.prefix_nil
  refine ⟨by rw [e1.2]; exact h.len, h.zero, h.nd, fun p => ?_, fun i p s j hi => by rw [e1.1]; exact h.nx i p s j hi, fun i p hi => ?_, fun i p hi => ?_, fun j s hj => by rw [e1.1]; exact h.far j s hj, fun j hj => ?_⟩
  · rw [h.mem p, nilp]
    constructor
    · rintro (a | ⟨m, hm, a⟩ | a)
      · exact .inl a
      · exact .inr (.inl ⟨m, List.mem_append_left _ hm, a⟩)
      · exact .inr (.inl ⟨l, by simp, a⟩)
    · rintro (a | ⟨m, hm, a⟩ | a)
      · exact .inl a
      · rcases List.mem_append.mp hm with hm | hm
        · exact .inr (.inl ⟨m, hm, a⟩)
        · have hm : m = l := by simpa using hm
          exact .inr (.inr (hm ▸ a))
      · exact .inl a
  · rw [e1.2, h.ms i p hi, idx_app]
    cases e : ls.findIdx? (fun m => decide (p <+: m)) with
    | some r => rfl
    | none =>
      have hp : p <+: l := by
        rcases (h.mem p).mp (List.mem_of_getElem? hi) with a | ⟨m, hm, a⟩ | a
        · rw [a]; exact List.nil_prefix
        · rw [List.findIdx?_eq_none_iff] at e
          exact absurd a (by simpa using e m hm)
        · exact a
      simp [hp]
  · rw [e2, h.en i p hi, idx_app]
    cases e : ls.findIdx? (fun m => decide (m = p)) with
    | some r => rfl
    | none =>
      by_cases hp : l = p
      · subst hp
        rw [at_inj h.nd hi hk]
        simp
      · have hne : ¬ (k : Int) = (i : Int) := fun z => by
          have : k = i := by omega
          subst this
          rw [hk] at hi
          exact hp (Option.some.inj hi)
        simp [hp, hne]
  · rw [e2, h.farE j hj, if_neg (by omega)]
def addL (n : Int) (t : T) (l : List Int) : T := endn n (word n t 0 l).1 (word n t 0 l).2
theorem Tr.add {ls : List (List Int)} {t : T} {ps : List (List Int)} (h : Tr ls [] t ps) (l : List Int) : ∃ ps', Tr (ls ++ [l]) [] (addL (ls.length : Int) t l) ps' := by
  obtain ⟨ps', k, h1, e, hk⟩ := Tr.word l h h.zero
  refine ⟨ps', ?_⟩
  unfold addL
  have e0 : ((0 : Nat) : Int) = 0 := rfl
  rw [e0] at h1 e
  rw [e]
  exact h1.done hk
def build : List (List Int) → Nat → T
  | _, 0 => T0
  | ls, n + 1 => addL (n : Int) (build ls n) ((ls[n]?).getD [])
theorem build_tr (ls : List (List Int)) : ∀ n, n ≤ ls.length → ∃ ps, Tr (ls.take n) [] (build ls n) ps
  | 0, _ => ⟨_, Tr.start⟩
  | n + 1, h => by
    obtain ⟨ps, hp⟩ := build_tr ls n (by omega)
    obtain ⟨ps', hp'⟩ := hp.add ((ls[n]?).getD [])
    refine ⟨ps', ?_⟩
    have e : ls.take n ++ [(ls[n]?).getD []] = ls.take (n + 1) := by
      rw [List.take_succ, List.getElem?_eq_getElem (by omega)]
      rfl
    have e2 : ((ls.take n).length : Int) = (n : Int) := by rw [List.length_take]; omega
    rw [e, e2] at hp'
    exact hp'
/-! ## looking for a left side -/
def walk (t : T) : Int → Int → List Int → Int
  | best, _, [] => best
  | best, node, s :: rem => match lk t.nn [node, s] with
    | none => best
    | some c => match t.ms[c.toNat]? with
      | none => best
      | some m => if best ≤ m then best else walk t (min best ((lk t.en c).getD best)) c rem
def Hit (ls : List (List Int)) (p rem : List Int) (r : Nat) : Prop := ∃ q, q ≠ [] ∧ q <+: rem ∧ ls[r]? = some (p ++ q)
theorem idx_some {ls : List (List Int)} {f : List Int → Bool} {r : Nat} (h : ls.findIdx? f = some r) : (∃ l, ls[r]? = some l ∧ f l = true) ∧ ∀ (s : Nat) l, ls[s]? = some l → f l = true → r ≤ s := by
  rw [List.findIdx?_eq_some_iff_getElem] at h
  obtain ⟨h1, h2, h3⟩ := h
  refine ⟨⟨_, List.getElem?_eq_getElem h1, h2⟩, fun s l hs hf => ?_⟩
  rcases Nat.lt_or_ge s r with z | z
  · have hsl := (List.getElem?_eq_some_iff.mp hs)
    have := h3 s z
    rw [hsl.2, hf] at this
    exact absurd rfl this
  · exact z
theorem walk_spec {ls : List (List Int)} {t : T} {ps : List (List Int)} (h : Tr ls [] t ps) : ∀ (rem : List Int) (i : Nat) (p : List Int) (best : Int), ps[i]? = some p →
    walk t best (i : Int) rem ≤ best ∧ (walk t best (i : Int) rem = best ∨ ∃ r : Nat, walk t best (i : Int) rem = (r : Int) ∧ Hit ls p rem r) ∧ ∀ r, Hit ls p rem r → walk t best (i : Int) rem ≤ (r : Int)
  | [], i, p, best, hi => by
    refine ⟨Int.le_refl _, .inl rfl, fun r ⟨q, hq, hp, _⟩ => ?_⟩
    exact absurd (List.prefix_nil.mp hp) hq
  | s :: rem, i, p, best, hi => by
    have tail : ∀ r, Hit ls p (s :: rem) r → ls[r]? = some (p ++ [s]) ∨ Hit ls (p ++ [s]) rem r := fun r ⟨q, hq, hp, hr⟩ => by
      obtain ⟨z, hz⟩ := hp
      cases q with
      | nil => exact absurd rfl hq
      | cons a q =>
        rw [List.cons_append] at hz
        obtain ⟨rfl, hz2⟩ := List.cons.inj hz
        cases q with
        | nil => exact .inl hr
        | cons b q2 => exact .inr ⟨b :: q2, by simp, ⟨z, hz2⟩, by rw [hr]; simp⟩
    have pre : ∀ r, Hit ls p (s :: rem) r → ∃ l, ls[r]? = some l ∧ p ++ [s] <+: l := fun r hr => by
      rcases tail r hr with a | ⟨q, _, _, a⟩
      · exact ⟨_, a, List.prefix_rfl⟩
      · exact ⟨_, a, List.prefix_append _ _⟩
    unfold walk
    cases e : lk t.nn [(i : Int), s] with
    | none =>
      refine ⟨Int.le_refl _, .inl rfl, fun r hr => ?_⟩
      obtain ⟨l, hl, hp⟩ := pre r hr
      obtain ⟨k, hk⟩ := List.getElem?_of_mem ((h.mem _).mpr (.inr (.inl ⟨l, List.mem_of_getElem? hl, hp⟩)))
      have := (h.nx i p s (k : Int) hi).mpr ⟨k, rfl, hk⟩
      rw [e] at this
      cases this
    | some c =>
      obtain ⟨k, rfl, hk⟩ := (h.nx i p s c hi).mp e
      have hm := h.ms k (p ++ [s]) hk
      obtain ⟨r0, hr0⟩ : ∃ r0, ls.findIdx? (fun l => decide (p ++ [s] <+: l)) = some r0 := by
        cases e2 : ls.findIdx? (fun l => decide (p ++ [s] <+: l)) with
        | some r0 => exact ⟨r0, rfl⟩
        | none =>
          rw [List.findIdx?_eq_none_iff] at e2
          rcases (h.mem _).mp (List.mem_of_getElem? hk) with a | ⟨l, hl, a⟩ | a
          · simp at a
          · exact absurd a (by simpa using e2 l hl)
          · have := List.prefix_nil.mp a
            simp at this
      obtain ⟨_, low⟩ := idx_some hr0
      rw [hr0] at hm
      have hm : t.ms[k]? = some (r0 : Int) := hm
      simp only [Int.toNat_natCast, hm]
      by_cases hb : best ≤ (r0 : Int)
      · rw [if_pos hb]
        refine ⟨Int.le_refl _, .inl rfl, fun r hr => ?_⟩
        obtain ⟨l, hl, hp⟩ := pre r hr
        have := low r l hl (decide_eq_true hp)
        omega
      · rw [if_neg hb]
        obtain ⟨w1, w2, w3⟩ := walk_spec h rem k (p ++ [s]) (min best ((lk t.en (k : Int)).getD best)) hk
        have he := h.en k (p ++ [s]) hk
        refine ⟨by omega, ?_, fun r hr => ?_⟩
        · rcases w2 with w2 | ⟨r, w2, q, hq, hp, hr⟩
          · cases e2 : ls.findIdx? (fun l => decide (l = p ++ [s])) with
            | none =>
              rw [e2] at he
              have he : lk t.en (k : Int) = none := he
              rw [he] at w2 ⊢
              left
              rw [w2]
              simp
            | some r1 =>
              rw [e2] at he
              have he : lk t.en (k : Int) = some (r1 : Int) := he
              obtain ⟨⟨l, hl, hl2⟩, _⟩ := idx_some e2
              have hl2 := of_decide_eq_true hl2
              rw [he] at w2 ⊢
              rw [w2]
              show min best (r1 : Int) = best ∨ _
              by_cases hle : best ≤ (r1 : Int)
              · left; omega
              · right
                exact ⟨r1, by show min best (r1 : Int) = _; omega, [s], by simp, by simp, by rw [hl, hl2]⟩
          · exact .inr ⟨r, w2, s :: q, by simp, by simpa using hp, by rw [hr]; simp⟩
        · rcases tail r hr with a | a
          · cases e2 : ls.findIdx? (fun l => decide (l = p ++ [s])) with
            | none =>
              rw [List.findIdx?_eq_none_iff] at e2
              have := e2 _ (List.mem_of_getElem? a)
              simp at this
            | some r1 =>
              obtain ⟨_, low2⟩ := idx_some e2
              have := low2 r _ a (by simp)
              rw [e2] at he
              have he : lk t.en (k : Int) = some (r1 : Int) := he
              rw [he] at w1 ⊢
              have w1 : walk t (min best ((some (r1 : Int)).getD best)) (k : Int) rem ≤ min best (r1 : Int) := w1
              omega
          · exact w3 r a
/-! ## the best rule and its first place -/
def Best (ls : List (List Int)) (conf : List Int) (i : Nat) (best place : Int) : Prop :=
  (best = (ls.length : Int) ∧ ∀ r s, s < i → ¬ Hit ls [] (conf.drop s) r) ∨
    ∃ b pl : Nat, best = (b : Int) ∧ place = (pl : Int) ∧ b < ls.length ∧ pl < i ∧ Hit ls [] (conf.drop pl) b ∧ (∀ s, s < pl → ¬ Hit ls [] (conf.drop s) b) ∧ ∀ r s, s < i → Hit ls [] (conf.drop s) r → b ≤ r
theorem hit_lt {ls : List (List Int)} {p rem : List Int} {r : Nat} (h : Hit ls p rem r) : r < ls.length := by
  obtain ⟨q, _, _, h⟩ := h
  exact (List.getElem?_eq_some_iff.mp h).1
theorem Best.zero (ls : List (List Int)) (conf : List Int) (place : Int) : Best ls conf 0 (ls.length : Int) place := .inl ⟨rfl, fun _ _ h => absurd h (by omega)⟩
theorem Best.next {ls : List (List Int)} {t : T} {ps : List (List Int)} {conf : List Int} {i : Nat} {best place : Int} (h : Tr ls [] t ps) (B : Best ls conf i best place) :
    (walk t best 0 (conf.drop i) < best → Best ls conf (i + 1) (walk t best 0 (conf.drop i)) (i : Int)) ∧ (¬ walk t best 0 (conf.drop i) < best → Best ls conf (i + 1) best place) := by
  obtain ⟨w1, w2, w3⟩ := walk_spec h (conf.drop i) 0 [] best h.zero
  have e0 : ((0 : Nat) : Int) = 0 := rfl
  rw [e0] at w1 w2 w3
  have cov : ∀ {r s : Nat}, s < i + 1 → Hit ls [] (conf.drop s) r → (s < i ∧ Hit ls [] (conf.drop s) r) ∨ (s = i ∧ Hit ls [] (conf.drop i) r) := fun {r s} hs hh => by
    rcases Nat.lt_or_ge s i with z | z
    · exact .inl ⟨z, hh⟩
    · have : s = i := by omega
      subst this
      exact .inr ⟨rfl, hh⟩
  constructor
  · intro hlt
    rcases w2 with w2 | ⟨r, w2, hr⟩
    · omega
    · rw [w2] at hlt w3 ⊢
      refine .inr ⟨r, i, rfl, rfl, hit_lt hr, Nat.lt_succ_self i, hr, fun s hs hh => ?_, fun r2 s hs hh => ?_⟩
      · rcases B with ⟨_, B2⟩ | ⟨b, pl, rfl, _, _, _, _, _, B7⟩
        · exact B2 r s hs hh
        · have := B7 r s hs hh
          omega
      · rcases cov hs hh with ⟨a, c⟩ | ⟨_, c⟩
        · rcases B with ⟨_, B2⟩ | ⟨b, pl, rfl, _, _, _, _, _, B7⟩
          · exact absurd c (B2 r2 s a)
          · have := B7 r2 s a c
            omega
        · have := w3 r2 c
          omega
  · intro hnl
    have weq : walk t best 0 (conf.drop i) = best := by omega
    rw [weq] at w3
    rcases B with ⟨B1, B2⟩ | ⟨b, pl, B1, B2, B3, B4, B5, B6, B7⟩
    · refine .inl ⟨B1, fun r s hs hh => ?_⟩
      rcases cov hs hh with ⟨a, c⟩ | ⟨_, c⟩
      · exact B2 r s a c
      · have := w3 r c
        have := hit_lt c
        omega
    · refine .inr ⟨b, pl, B1, B2, B3, by omega, B5, B6, fun r s hs hh => ?_⟩
      rcases cov hs hh with ⟨a, c⟩ | ⟨_, c⟩
      · exact B7 r s a c
      · have := w3 r c
        omega
end Tri

set_option maxHeartbeats 4000000
namespace Ly
open PySem L2 PySem.Spec PyProof.Rows
def rlD (r : List Int × List Int) : Dat := .tup [.tup (r.1.map Dat.int), .tup (r.2.map Dat.int)]
def kvN (nn : List (List Int × Int)) : List (List Key × V) := nn.map fun p => (iK p.1, V.int p.2)
def kvE (en : List (Int × Int)) : List (Key × V) := en.map fun p => ((Sum.inl p.1 : Key), V.int p.2)
def dkN (nn : List (List Int × Int)) : List (List Key × Dat) := nn.map fun p => (iK p.1, Dat.int p.2)
def dkE (en : List (Int × Int)) : List (Key × Dat) := en.map fun p => ((Sum.inl p.1 : Key), Dat.int p.2)
def lfF (t : Tri.T) : List (Str × Dat) := [(("_next_nodes" : Str), .dct (dkN t.nn)), (("_ends" : Str), .dcs (dkE t.en)), (("_makers" : Str), .lst (t.ms.map Dat.int))]
def LW (x C dx d1 d2 l : Addr) (t : Tri.T) : Wd := WM x C dx [(("_next_nodes" : Str), .ref d1), (("_ends" : Str), .ref d2), (("_makers" : Str), .ref l)] [(l, .lst (t.ms.map V.int)), (d2, .dK (kvE t.en)), (d1, .dT (kvN t.nn))]
def A_linit : InitP := fun ds F => ∃ rules : List (List Int × List Int), rules.length ≤ 100 ∧ (∀ r ∈ rules, r.1.length ≤ 100) ∧ ds = [.tup (rules.map rlD)] ∧ F = (· = lfF (Tri.build (rules.map Prod.fst) rules.length))
end Ly
namespace Tri
/-- the numbers of the nodes lie below the makers' -/
def nb (t : T) : Prop := ∀ p ∈ t.nn, p.2 < (t.ms.length : Int)
theorem lk_mem {α : Type} [DecidableEq α] {kv : List (α × Int)} {k : α} {v : Int} (h : lk kv k = some v) : ∃ p ∈ kv, p.2 = v := by
  unfold lk at h
  rw [Option.map_eq_some_iff] at h
  obtain ⟨p, h1, h2⟩ := h
  exact ⟨p, List.mem_of_find?_eq_some h1, h2⟩
theorem one_nb {n node s : Int} {t : T} (h : nb t) : nb (one n t node s).1 := by
  unfold one
  cases e : lk t.nn [node, s] with
  | some c => exact h
  | none =>
    intro p hp
    show p.2 < ((t.ms ++ [n]).length : Int)
    rw [List.length_append, List.length_singleton]
    rcases List.mem_append.mp hp with hp | hp
    · have := h p hp
      omega
    · rw [List.mem_singleton] at hp
      subst hp
      show (t.ms.length : Int) < _
      omega
theorem word_snoc (n s : Int) : ∀ (w : List Int) (t : T) (node : Int), word n t node (w ++ [s]) = one n (word n t node w).1 (word n t node w).2 s
  | [], _, _ => rfl
  | a :: w, t, node => word_snoc n s w (one n t node a).1 (one n t node a).2
theorem one_len {n node s : Int} {t : T} : (one n t node s).1.nn.length ≤ t.nn.length + 1 ∧ (one n t node s).1.en = t.en ∧ ((one n t node s).1.ms.length + t.nn.length = t.ms.length + (one n t node s).1.nn.length) := by
  unfold one
  cases lk t.nn [node, s] with
  | some c => exact ⟨Nat.le_succ _, rfl, rfl⟩
  | none =>
    refine ⟨by simp, rfl, ?_⟩
    show (t.ms ++ [n]).length + t.nn.length = t.ms.length + (t.nn ++ [_]).length
    simp
    omega
/-- sizes -/
structure Sz (t : T) (a b : Nat) : Prop where
  nb : nb t
  nn : t.nn.length ≤ a
  en : t.en.length ≤ b
  ms : t.ms.length = t.nn.length + 1
theorem Sz.zero : Sz T0 0 0 := ⟨(fun _ h => nomatch h), Nat.le_refl _, Nat.le_refl _, rfl⟩
theorem Sz.one {t : T} {a b : Nat} {n node s : Int} (h : Sz t a b) : Sz (Tri.one n t node s).1 (a + 1) b := by
  obtain ⟨h1, h2, h3⟩ := one_len (n := n) (node := node) (s := s) (t := t)
  have q1 := h.nn
  have q2 := h.ms
  exact ⟨one_nb h.nb, by omega, by rw [h2]; exact h.en, by omega⟩
theorem Sz.endn {t : T} {a b : Nat} {n node : Int} (h : Sz t a b) : Sz (Tri.endn n t node) a (b + 1) := by
  unfold Tri.endn
  cases lk t.en node with
  | some _ => exact ⟨h.nb, h.nn, Nat.le_succ_of_le h.en, h.ms⟩
  | none => exact ⟨h.nb, h.nn, by show (t.en ++ [_]).length ≤ _; rw [List.length_append]; exact Nat.succ_le_succ h.en, h.ms⟩
theorem Sz.word {n : Int} : ∀ (w : List Int) {t : T} {a b : Nat} {node : Int}, Sz t a b → Sz (Tri.word n t node w).1 (a + w.length) b
  | [], _, _, _, _, h => h
  | s :: w, t, a, b, node, h => by
    have := Sz.word (n := n) w (node := (Tri.one n t node s).2) (h.one (n := n) (node := node) (s := s))
    rw [List.length_cons, Nat.add_comm w.length 1, ← Nat.add_assoc]
    exact this
end Tri

namespace Ly
open PySem L2 PySem.Spec PyProof.Rows
section
variable {K : PySem.W.Frag} {Γ : List (Option Dat)} {G1 G0 H0 G H : Hp} {σ : L2.St} {x C dx d1 d2 l : Addr} {fs : List (Str × V)} {ps : List (Addr × HO)} {D : Ends} {tz : TS} {f : Str} {t : Tri.T}
/-- a new part of a kind o, told by a field -/
theorem q_newPt {te : TE} {o : HO} (hte : ∀ σ H Q, (∀ p, H p = none → Q (.ref p) (upd H p o)) → te σ H Q) (ho : Γ[0]? = some (some (.adr x))) (hc : Cls K C) (hn : NoAttr K C f) (hl : fs.length < 1000) (S : S4 (WM x C dx fs ps) K G1 G0 H0 Γ [] σ G H)
    (k : ∀ p, H0 p = none → S4 (WM x C dx (putF f (.ref p) fs) ((p, o) :: ps)) K G1 G0 H0 Γ [] σ G (upd (upd H p o) x (.ins C dx (putF f (.ref p) fs))) → tz D σ (upd (upd H p o) x (.ins C dx (putF f (.ref p) fs)))) : tSeq (sFld K (tVar 0) te f) tz D σ H :=
  hte _ _ _ fun p hp => by
    obtain ⟨v, h1, r⟩ := S.env.at' 0 _ ho
    cases r
    exact ⟨_, h1, x, C, dx, fs, rfl, by rw [upd_ne (S.free hp).2.1.symm]; exact S.ok.inv.2.1, hc, hn, hl, k p (S.free hp).1 (S.newPart hp)⟩
abbrev fsL (d1 d2 l : Addr) : List (Str × V) := [(("_next_nodes" : Str), .ref d1), (("_ends" : Str), .ref d2), (("_makers" : Str), .ref l)]
/-- what the tree's world says of the heap -/
theorem LW.says (S : S4 (LW x C dx d1 d2 l t) K G1 G0 H0 Γ [] σ G H) : [x, l, d2, d1].Nodup ∧ H x = some (.ins C dx (fsL d1 d2 l)) ∧ H l = some (.lst (t.ms.map V.int)) ∧ H d2 = some (.dK (kvE t.en)) ∧ H d1 = some (.dT (kvN t.nn)) := by
  obtain ⟨nd, hx, hps⟩ := S.ok.inv
  exact ⟨nd, hx, hps (l, _) (by simp), hps (d2, _) (by simp), hps (d1, _) (by simp)⟩
theorem t_var {i : Nat} {j : Int} (E : Env K G σ Γ) (h : Γ[i]? = some (some (.int j))) : σ[i]? = some (some (.int j)) := by
  obtain ⟨v, h1, r⟩ := E.at' i _ h
  cases r
  exact h1
theorem t_varA {i : Nat} {a : Addr} (E : Env K G σ Γ) (h : Γ[i]? = some (some (.adr a))) : σ[i]? = some (some (.ref a)) := by
  obtain ⟨v, h1, r⟩ := E.at' i _ h
  cases r
  exact h1
theorem lk_N {nn : List (List Int × Int)} {k : List Int} : valV (kvN nn) (iK k) = (Tri.lk nn k).map V.int := by
  unfold kvN
  rw [lkp_dT]
  unfold Tri.lk
  rw [Option.map_map]
  rfl
theorem lk_E {en : List (Int × Int)} {k : Int} : valV (kvE en) (Sum.inl k) = (Tri.lk en k).map V.int := by
  unfold kvE
  rw [lkp_dK]
  unfold Tri.lk
  rw [Option.map_map]
  rfl
/-- node = self._next_nodes.setdefault((node, symbol), len(self._makers)) -/
theorem q_setNode {n node sym : Int} {a b : Nat} (hc : Cls K C) (n1 : NoAttr K C "_next_nodes") (n3 : NoAttr K C "_makers") (h0 : Γ[0]? = some (some (.adr x))) (h5 : Γ[5]? = some (some (.int node))) (h6 : Γ[6]? = some (some (.int sym)))
    (z : Tri.Sz t a b) (ha : a ≤ 100000) (S : S4 (LW x C dx d1 d2 l t) K G1 G0 H0 Γ [] σ G H)
    (k1 : ∀ c G H, Tri.lk t.nn [node, sym] = some c → S4 (LW x C dx d1 d2 l t) K G1 G0 H0 (Γ.set 5 (some (.int c))) [] (σ.set 5 (some (.int c))) G H → tz D (σ.set 5 (some (.int c))) H)
    (k2 : ∀ G H, Tri.lk t.nn [node, sym] = none → S4 (LW x C dx d1 d2 l ⟨t.nn ++ [([node, sym], (t.ms.length : Int))], t.en, t.ms⟩) K G1 G0 H0 (Γ.set 5 (some (.int (t.ms.length : Int)))) [] (σ.set 5 (some (.int (t.ms.length : Int)))) G H → tz D (σ.set 5 (some (.int (t.ms.length : Int)))) H) :
    tSeq (tAsg (tDSetT (tFld K (tVar 0) "_next_nodes") (tTup (tCons (tVar 5) (tCons (tVar 6) tNil))) (tCB (rLen K) (tCons (tFld K (tVar 0) "_makers") tNil))) (gName 5)) tz D σ H := by
  obtain ⟨nd, hx, hL, hE, hN⟩ := LW.says S
  have e0 := t_varA S.env h0
  refine ⟨_, e0, x, C, dx, _, _, rfl, hx, hc, n1, rfl, d1, rfl, .inr ⟨_, .inl hN⟩, _, t_var S.env h5, _, t_var S.env h6, by show 2 ≤ sizeLine; decide, fun p hp => ?_⟩
  have S2 := S.step (Stp.new (o := .tup [.int node, .int sym]) S.ok hp)
  obtain ⟨_, hx2, hL2, hE2, hN2⟩ := LW.says S2
  refine ⟨_, e0, x, C, dx, _, _, rfl, hx2, hc, n3, rfl, l, t.ms.map V.int, rfl, .inl (.inl (.inl hL2)), kvN t.nn, iK [node, sym], p, hN2, rfl, upd_same, ?_, fun v hv => ?_, fun hv => ?_⟩
  · show (kvN t.nn).length < sizeLine
    have := z.nn
    unfold kvN
    rw [List.length_map]
    exact Nat.lt_of_le_of_lt (Nat.le_trans this ha) (by decide)
  · rw [lk_N] at hv
    cases e : Tri.lk t.nn [node, sym] with
    | none => rw [e] at hv; cases hv
    | some c =>
      rw [e] at hv
      cases hv
      exact k1 c _ _ e (S2.set (i := 5) (.int c))
  · rw [lk_N] at hv
    have e : Tri.lk t.nn [node, sym] = none := by
      cases e : Tri.lk t.nn [node, sym] with
      | none => rfl
      | some c => rw [e] at hv; cases hv
    have em : (t.ms.map V.int).length = t.ms.length := List.length_map _
    rw [em]
    have ep : putK (kvN t.nn) (iK [node, sym]) (V.int (t.ms.length : Int)) = kvN (t.nn ++ [([node, sym], (t.ms.length : Int))]) := by
      rw [put_new (by rw [lk_N, e]; rfl)]
      unfold kvN
      rw [List.map_append]
      rfl
    rw [ep]
    have S3 := S4.setPart (a := d1) (o := .dT (kvN t.nn)) (o' := .dT (kvN (t.nn ++ [([node, sym], (t.ms.length : Int))]))) (by simp) S2
    have ew : setP [(l, HO.lst (t.ms.map V.int)), (d2, .dK (kvE t.en)), (d1, .dT (kvN t.nn))] d1 (.dT (kvN (t.nn ++ [([node, sym], (t.ms.length : Int))]))) = [(l, HO.lst (t.ms.map V.int)), (d2, .dK (kvE t.en)), (d1, .dT (kvN (t.nn ++ [([node, sym], (t.ms.length : Int))])))] := by
      have a1 : l ≠ d1 := fun q => by rw [q] at nd; simp at nd
      have a2 : d2 ≠ d1 := fun q => by rw [q] at nd; simp at nd
      simp [setP, a1, a2]
    rw [ew] at S3
    exact k2 _ _ e (S4.set (i := 5) (.int _) S3)
/-- if node == len(self._makers): self._makers.append(number) -/
theorem g_grow {c n : Int} {a b : Nat} (hc : Cls K C) (n3 : NoAttr K C "_makers") (h0 : Γ[0]? = some (some (.adr x))) (h5 : Γ[5]? = some (some (.int c))) (h2 : Γ[2]? = some (some (.int n)))
    (hz : t.ms.length ≤ 100001) (S : S4 (LW x C dx d1 d2 l t) K G1 G0 H0 Γ [] σ G H)
    (k1 : c = (t.ms.length : Int) → ∀ G H, S4 (LW x C dx d1 d2 l ⟨t.nn, t.en, t.ms ++ [n]⟩) K G1 G0 H0 Γ [] σ G H → D.nx σ H)
    (k2 : c ≠ (t.ms.length : Int) → D.nx σ H) :
    tIfS (tTest (tOp rEq (tVar 5) (tCB (rLen K) (tCons (tFld K (tVar 0) "_makers") tNil)))) (tDrop (tBM K "list" rAppend (tFld K (tVar 0) "_makers") (tCons (tVar 2) tNil))) tNext D σ H := by
  obtain ⟨nd, hx, hL, hE, hN⟩ := LW.says S
  have e0 := t_varA S.env h0
  have em : (t.ms.map V.int).length = t.ms.length := List.length_map _
  refine ⟨_, t_var S.env h5, _, e0, x, C, dx, _, _, rfl, hx, hc, n3, rfl, l, t.ms.map V.int, rfl, .inl (.inl (.inl hL)), rfl, _, rfl, ?_⟩
  rw [em]
  by_cases h : c = (t.ms.length : Int)
  · subst h
    rw [if_pos (decide_eq_true rfl)]
    refine ⟨_, e0, x, C, dx, _, _, rfl, hx, hc, n3, rfl, .inl ⟨rfl, _, .inl (.inl hL)⟩, _, t_var S.env h2, l, t.ms.map V.int, .int n, rfl, rfl, hL, ?_, ?_⟩
    · rw [em]
      exact Nat.lt_of_le_of_lt hz (by decide)
    · have S3 := S4.setPart (a := l) (o := .lst (t.ms.map V.int)) (o' := .lst (t.ms.map V.int ++ [.int n])) (by simp) S
      have ew : setP [(l, HO.lst (t.ms.map V.int)), (d2, .dK (kvE t.en)), (d1, .dT (kvN t.nn))] l (.lst (t.ms.map V.int ++ [.int n])) = [(l, HO.lst ((t.ms ++ [n]).map V.int)), (d2, .dK (kvE t.en)), (d1, .dT (kvN t.nn))] := by
        have a1 : d2 ≠ l := fun q => by rw [q] at nd; simp at nd
        have a2 : d1 ≠ l := fun q => by rw [q] at nd; simp at nd
        simp [setP, a1, a2]
      rw [ew] at S3
      exact k1 rfl _ _ S3
  · have e : decide ((V.int c) = V.int (t.ms.length : Int)) = false := decide_eq_false fun q => h (V.int.inj q)
    rw [e]
    exact k2 h
/-- self._ends.setdefault(node, number) -/
theorem g_setE {c n : Int} {a b : Nat} (hc : Cls K C) (n2 : NoAttr K C "_ends") (h0 : Γ[0]? = some (some (.adr x))) (h5 : Γ[5]? = some (some (.int c))) (h2 : Γ[2]? = some (some (.int n)))
    (hz : t.en.length ≤ 100000) (S : S4 (LW x C dx d1 d2 l t) K G1 G0 H0 Γ [] σ G H)
    (k : ∀ G H, S4 (LW x C dx d1 d2 l (Tri.endn n t c)) K G1 G0 H0 Γ [] σ G H → D.nx σ H) :
    tDrop (tDSetd (tFld K (tVar 0) "_ends") (tVar 5) (tVar 2)) D σ H := by
  obtain ⟨nd, hx, hL, hE, hN⟩ := LW.says S
  have e0 := t_varA S.env h0
  refine ⟨_, e0, x, C, dx, _, _, rfl, hx, hc, n2, rfl, d2, rfl, .inl ⟨_, .inl hE⟩, _, t_var S.env h5, _, t_var S.env h2, kvE t.en, Sum.inl c, hE, rfl, ?_, fun v hv => ?_, fun hv => ?_⟩
  · unfold kvE
    rw [List.length_map]
    exact Nat.lt_of_le_of_lt hz (by decide)
  · rw [lk_E] at hv
    cases e : Tri.lk t.en c with
    | none => rw [e] at hv; cases hv
    | some r =>
      refine k G H ?_
      have ee : Tri.endn n t c = t := by unfold Tri.endn; rw [e]
      rw [ee]
      exact S
  · rw [lk_E] at hv
    have e : Tri.lk t.en c = none := by
      cases e : Tri.lk t.en c with
      | none => rfl
      | some c => rw [e] at hv; cases hv
    have ep : putK (kvE t.en) (Sum.inl c) (V.int n) = kvE (t.en ++ [(c, n)]) := by
      rw [put_new (by rw [lk_E, e]; rfl)]
      unfold kvE
      rw [List.map_append]
      rfl
    rw [ep]
    have ee : Tri.endn n t c = ⟨t.nn, t.en ++ [(c, n)], t.ms⟩ := by unfold Tri.endn; rw [e]
    have S3 := S4.setPart (a := d2) (o := .dK (kvE t.en)) (o' := .dK (kvE (t.en ++ [(c, n)]))) (by simp) S
    have ew : setP [(l, HO.lst (t.ms.map V.int)), (d2, .dK (kvE t.en)), (d1, .dT (kvN t.nn))] d2 (.dK (kvE (t.en ++ [(c, n)]))) = [(l, HO.lst (t.ms.map V.int)), (d2, .dK (kvE (t.en ++ [(c, n)]))), (d1, .dT (kvN t.nn))] := by
      have a1 : l ≠ d2 := fun q => by rw [q] at nd; simp at nd
      have a2 : d1 ≠ d2 := fun q => by rw [q] at nd; simp at nd
      simp [setP, a1, a2]
    rw [ew] at S3
    refine k G _ ?_
    rw [ee]
    exact S3
end
end Ly

set_option maxHeartbeats 4000000
namespace Ly
open PySem L2 PySem.Spec PyProof.Rows
section
variable {K : PySem.W.Frag} {Γ : List (Option Dat)} {G1 G0 H0 G H : Hp} {σ : L2.St} {x C dx d1 d2 l : Addr} {D : Ends} {tz : TS} {tl : TE} {t : Tri.T}
abbrev tLstep (K : PySem.W.Frag) : TS := tSeq (tAsg (tDSetT (tFld K (tVar 0) "_next_nodes") (tTup (tCons (tVar 5) (tCons (tVar 6) tNil))) (tCB (rLen K) (tCons (tFld K (tVar 0) "_makers") tNil))) (gName 5))
  (tIfS (tTest (tOp rEq (tVar 5) (tCB (rLen K) (tCons (tFld K (tVar 0) "_makers") tNil)))) (tDrop (tBM K "list" rAppend (tFld K (tVar 0) "_makers") (tCons (tVar 2) tNil))) tNext)
/-- for symbol in left: .. -/
theorem q_symbols {left : List Int} {n node0 : Int} {a b : Nat} (hc : Cls K C) (n1 : NoAttr K C "_next_nodes") (n3 : NoAttr K C "_makers") (h0 : Γ[0]? = some (some (.adr x))) (h2 : Γ[2]? = some (some (.int n)))
    (h : EvX (LW x C dx d1 d2 l t) K tl Γ (.tup (left.map Dat.int))) (h5 : Γ[5]? = some (some (.int node0))) (hlen : Γ.length = 7) (z : Tri.Sz t a b) (ha : a + left.length ≤ 100000) (S : S4 (LW x C dx d1 d2 l t) K G1 G0 H0 Γ [] σ G H)
    (k : ∀ Γ' G' σ' H', Γ'[0]? = some (some (.adr x)) → Γ'[2]? = some (some (.int n)) → Γ'.length = 7 → Γ'[5]? = some (some (.int (Tri.word n t node0 left).2)) → S4 (LW x C dx d1 d2 l (Tri.word n t node0 left).1) K G1 G0 H0 Γ' [] σ' G' H' → tz D σ' H') :
    tSeq (tFor (iTup K tl) (gName 6) (tLstep K)) tz D σ H :=
  h σ G H S.env S.ok _ fun v d G2 H2 s e r => by
    subst e
    obtain ⟨p, xs, rfl, hx, r⟩ := r.tup_inv
    have S2 := S.step s
    have ex := r.ints
    subst ex
    have hl : (left.map V.int).length = left.length := List.length_map _
    refine ⟨p, rfl, ⟨_, ex_t S2.ok.ex hx⟩, for_tup (fun j σ H => ∃ Γ' G', Γ'[0]? = some (some (.adr x)) ∧ Γ'[2]? = some (some (.int n)) ∧ Γ'.length = 7 ∧ Γ'[5]? = some (some (.int (Tri.word n t node0 (left.take j)).2)) ∧ S4 (LW x C dx d1 d2 l (Tri.word n t node0 (left.take j)).1) K G2 G0 H0 Γ' [] σ G' H)
      ⟨Γ, G2, h0, h2, hlen, h5, S2.here⟩ (fun j σ' H' _ ⟨Γ', G', _, _, _, _, S'⟩ => ex_t (S'.fr.trans S'.ok.ex) hx) (fun j y σ' H' hi ⟨Γ', G', g0, g2, gl, g5, S'⟩ => ?_) (fun σ' H' ⟨Γ', G', g0, g2, gl, g5, S'⟩ => ?_)⟩
    · rw [List.getElem?_map] at hi
      obtain ⟨s, hs, rfl⟩ := Option.map_eq_some_iff.mp hi
      have hjl : j < left.length := (List.getElem?_eq_some_iff.mp hs).1
      have et : left.take (j + 1) = left.take j ++ [s] := by
        rw [List.take_add_one, hs]
        rfl
      have zw := Tri.Sz.word (n := n) (left.take j) (node := node0) z
      have zl : a + (left.take j).length ≤ 100000 := by
        rw [List.length_take]
        omega
      have S3 := S'.set (i := 6) (.int s)
      have q0 : (Γ'.set 6 (some (Dat.int s)))[0]? = some (some (.adr x)) := by rw [List.getElem?_set_ne (by decide)]; exact g0
      have q2 : (Γ'.set 6 (some (Dat.int s)))[2]? = some (some (.int n)) := by rw [List.getElem?_set_ne (by decide)]; exact g2
      have q5 : (Γ'.set 6 (some (Dat.int s)))[5]? = some (some (.int (Tri.word n t node0 (left.take j)).2)) := by rw [List.getElem?_set_ne (by decide)]; exact g5
      have q6 : (Γ'.set 6 (some (Dat.int s)))[6]? = some (some (.int s)) := List.getElem?_set_self (by omega)
      have ql : (Γ'.set 6 (some (Dat.int s))).length = 7 := by rw [List.length_set]; exact gl
      show tSeq _ _ _ _ _
      refine q_setNode (n := n) hc n1 n3 q0 q5 q6 zw zl S3 (fun c G4 H4 e S4' => ?_) (fun G4 H4 e S4' => ?_)
      · have m0 : ((Γ'.set 6 (some (Dat.int s))).set 5 (some (Dat.int c)))[0]? = some (some (.adr x)) := by rw [List.getElem?_set_ne (by decide)]; exact q0
        have m2 : ((Γ'.set 6 (some (Dat.int s))).set 5 (some (Dat.int c)))[2]? = some (some (.int n)) := by rw [List.getElem?_set_ne (by decide)]; exact q2
        have m5 : ((Γ'.set 6 (some (Dat.int s))).set 5 (some (Dat.int c)))[5]? = some (some (.int c)) := List.getElem?_set_self (by omega)
        have ml : ((Γ'.set 6 (some (Dat.int s))).set 5 (some (Dat.int c))).length = 7 := by rw [List.length_set]; exact ql
        obtain ⟨pp, hp, hp2⟩ := Tri.lk_mem e
        have hlt := zw.nb pp hp
        have e1 : Tri.one n (Tri.word n t node0 (left.take j)).1 (Tri.word n t node0 (left.take j)).2 s = ((Tri.word n t node0 (left.take j)).1, c) := by unfold Tri.one; rw [e]
        refine g_grow (a := 0) (b := 0) hc n3 m0 m5 m2 (by rw [zw.ms]; have := zw.nn; omega) S4' (fun e2 => absurd e2 (by omega)) fun _ => ?_
        refine ⟨_, G4, m0, m2, ml, ?_, ?_⟩
        · rw [et, Tri.word_snoc, e1]
          exact m5
        · rw [et, Tri.word_snoc, e1]
          exact S4'
      · have m0 : ((Γ'.set 6 (some (Dat.int s))).set 5 (some (Dat.int ((Tri.word n t node0 (left.take j)).1.ms.length : Int))))[0]? = some (some (.adr x)) := by rw [List.getElem?_set_ne (by decide)]; exact q0
        have m2 : ((Γ'.set 6 (some (Dat.int s))).set 5 (some (Dat.int ((Tri.word n t node0 (left.take j)).1.ms.length : Int))))[2]? = some (some (.int n)) := by rw [List.getElem?_set_ne (by decide)]; exact q2
        have m5 : ((Γ'.set 6 (some (Dat.int s))).set 5 (some (Dat.int ((Tri.word n t node0 (left.take j)).1.ms.length : Int))))[5]? = some (some (.int ((Tri.word n t node0 (left.take j)).1.ms.length : Int))) := List.getElem?_set_self (by omega)
        have ml : ((Γ'.set 6 (some (Dat.int s))).set 5 (some (Dat.int ((Tri.word n t node0 (left.take j)).1.ms.length : Int)))).length = 7 := by rw [List.length_set]; exact ql
        have e1 : Tri.one n (Tri.word n t node0 (left.take j)).1 (Tri.word n t node0 (left.take j)).2 s = (⟨(Tri.word n t node0 (left.take j)).1.nn ++ [([(Tri.word n t node0 (left.take j)).2, s], ((Tri.word n t node0 (left.take j)).1.ms.length : Int))], (Tri.word n t node0 (left.take j)).1.en, (Tri.word n t node0 (left.take j)).1.ms ++ [n]⟩, ((Tri.word n t node0 (left.take j)).1.ms.length : Int)) := by unfold Tri.one; rw [e]
        refine g_grow (a := 0) (b := 0) hc n3 m0 m5 m2 (by show (Tri.word n t node0 (left.take j)).1.ms.length ≤ _; rw [zw.ms]; have := zw.nn; omega) S4' (fun _ G5 H5 S5 => ?_) fun h => absurd rfl h
        refine ⟨_, G5, m0, m2, ml, ?_, ?_⟩
        · rw [et, Tri.word_snoc, e1]
          exact m5
        · rw [et, Tri.word_snoc, e1]
          exact S5
    · rw [hl, List.take_length] at g5 S'
      exact k Γ' G' σ' H' g0 g2 gl g5 (S'.base S2.fr)
abbrev tLbody (K : PySem.W.Frag) : TS := tSeq (tAsg (tC (.int 0)) (gName 5)) (tSeq (tFor (iTup K (tVar 3)) (gName 6) (tLstep K)) (tDrop (tDSetd (tFld K (tVar 0) "_ends") (tVar 5) (tVar 2))))
theorem build_succ (ls : List (List Int)) {i : Nat} {w : List Int} (h : ls[i]? = some w) : Tri.build ls (i + 1) = Tri.endn (i : Int) (Tri.word (i : Int) (Tri.build ls i) 0 w).1 (Tri.word (i : Int) (Tri.build ls i) 0 w).2 := by
  show Tri.addL _ _ _ = _
  rw [h]
  rfl
/-- for number, (left, _) in enumerate(rules): .. -/
theorem g_lefts {rules : List (List Int × List Int)} (hc : Cls K C) (n1 : NoAttr K C "_next_nodes") (n2 : NoAttr K C "_ends") (n3 : NoAttr K C "_makers") (h0 : Γ[0]? = some (some (.adr x)))
    (h : EvX (LW x C dx d1 d2 l Tri.T0) K tl Γ (.tup (rules.map rlD))) (hlen : Γ.length = 7) (hr : rules.length ≤ 100) (hw : ∀ r ∈ rules, r.1.length ≤ 100) (S : S4 (LW x C dx d1 d2 l Tri.T0) K G1 G0 H0 Γ [] σ G H)
    (k : ∀ Γ' G' σ' H', S4 (LW x C dx d1 d2 l (Tri.build (rules.map Prod.fst) rules.length)) K G1 G0 H0 Γ' [] σ' G' H' → D.nx σ' H') :
    tFor (iEnumT K (tCons tl tNil)) (gTup K 2 (gCons (gName 2) (gCons (gTup K 2 (gCons (gName 3) (gCons (gName 4) gNil))) gNil))) (tLbody K) D σ H :=
  h σ G H S.env S.ok _ fun v d G2 H2 s e r => by
    subst e
    obtain ⟨p, xs, rfl, hx, r⟩ := r.tup_inv
    have S2 := S.step s
    have hl := r.length
    rw [List.length_map] at hl
    have hx2 := ex_t S2.ok.ex hx
    refine ⟨p, xs, rfl, hx2, fun i m σ' H' => m = xs.length - i ∧ i ≤ xs.length ∧ ∃ Γ' G', Γ'[0]? = some (some (.adr x)) ∧ Γ'.length = 7 ∧ Tri.Sz (Tri.build (rules.map Prod.fst) i) (100 * i) i ∧ S4 (LW x C dx d1 d2 l (Tri.build (rules.map Prod.fst) i)) K G2 G0 H0 Γ' [] σ' G' H',
      ⟨xs.length, by omega, by omega, Γ, G2, h0, hlen, Tri.Sz.zero, S2.here⟩, fun i m σ' H' ⟨hm, hi, Γ', G', g0, gl, z, S'⟩ => ?_⟩
    have hx3 : SqT K H' p xs := ex_t (S'.fr.trans S'.ok.ex) hx
    by_cases hlt : i < xs.length
    · refine .inr ⟨⟨xs, xs[i], hx3, List.getElem?_eq_getElem hlt⟩, fun σ2 H2 => ∃ Γ' G', Γ'[0]? = some (some (.adr x)) ∧ Γ'.length = 7 ∧ Tri.Sz (Tri.build (rules.map Prod.fst) (i + 1)) (100 * (i + 1)) (i + 1) ∧ S4 (LW x C dx d1 d2 l (Tri.build (rules.map Prod.fst) (i + 1))) K G2 G0 H0 Γ' [] σ2 G' H2,
        fun σ2 H2 hw => ⟨xs.length - (i + 1), by omega, rfl, hlt, hw⟩, fun y H3 ⟨T, y', ey, hT, eH, hy⟩ => ?_⟩
      subst eH ey
      have hyi := hy xs hx3
      obtain ⟨d, hd', rd⟩ := r.getV hyi
      rw [List.getElem?_map] at hd'
      obtain ⟨rl, hrl, rfl⟩ := Option.map_eq_some_iff.mp hd'
      have st : Stp (LW x C dx d1 d2 l (Tri.build (rules.map Prod.fst) i)) G' H' (upd G' T (.tup [.int (i : Nat), y'])) (upd H' T (.tup [.int (i : Nat), y'])) := Stp.new S'.ok hT
      have S3 := S'.step st
      have rd := rd.mono (S'.fr.trans st.gg)
      obtain ⟨p2, ys, rfl, hs2, r2⟩ := rd.tup_inv
      have hs2 := ex_t S3.ok.ex hs2
      cases r2 with
      | cons ra r3 => cases r3 with
        | cons rb r4 =>
          cases r4
          refine ⟨T, _, rfl, t_of upd_same, rfl, _, _, rfl, _, _, rfl, p2, _, rfl, hs2, rfl, _, _, rfl, _, _, rfl, rfl, rfl, ?_⟩
          have S4' := ((S3.set (i := 2) (.int (i : Int))).set (i := 3) ra).set (i := 4) rb
          have S5 := S4'.set (i := 5) (.int 0)
          have g0' : ((((Γ'.set 2 (some (Dat.int (i : Int)))).set 3 (some (Dat.tup (rl.1.map Dat.int)))).set 4 (some (Dat.tup (rl.2.map Dat.int)))).set 5 (some (Dat.int 0)))[0]? = some (some (.adr x)) := by
            rw [List.getElem?_set_ne (by decide), List.getElem?_set_ne (by decide), List.getElem?_set_ne (by decide), List.getElem?_set_ne (by decide)]; exact g0
          have g2' : ((((Γ'.set 2 (some (Dat.int (i : Int)))).set 3 (some (Dat.tup (rl.1.map Dat.int)))).set 4 (some (Dat.tup (rl.2.map Dat.int)))).set 5 (some (Dat.int 0)))[2]? = some (some (.int (i : Int))) := by
            rw [List.getElem?_set_ne (by decide), List.getElem?_set_ne (by decide), List.getElem?_set_ne (by decide)]; exact List.getElem?_set_self (by omega)
          have g3' : ((((Γ'.set 2 (some (Dat.int (i : Int)))).set 3 (some (Dat.tup (rl.1.map Dat.int)))).set 4 (some (Dat.tup (rl.2.map Dat.int)))).set 5 (some (Dat.int 0)))[3]? = some (some (.tup (rl.1.map Dat.int))) := by
            rw [List.getElem?_set_ne (by decide), List.getElem?_set_ne (by decide)]; exact List.getElem?_set_self (by rw [List.length_set]; omega)
          have g5' : ((((Γ'.set 2 (some (Dat.int (i : Int)))).set 3 (some (Dat.tup (rl.1.map Dat.int)))).set 4 (some (Dat.tup (rl.2.map Dat.int)))).set 5 (some (Dat.int 0)))[5]? = some (some (.int 0)) := List.getElem?_set_self (by simp only [List.length_set]; omega)
          have gl' : ((((Γ'.set 2 (some (Dat.int (i : Int)))).set 3 (some (Dat.tup (rl.1.map Dat.int)))).set 4 (some (Dat.tup (rl.2.map Dat.int)))).set 5 (some (Dat.int 0))).length = 7 := by simp only [List.length_set]; exact gl
          have hrw := hw rl (List.mem_of_getElem? hrl)
          have hi100 : i < 100 := by omega
          have eb := build_succ (rules.map Prod.fst) (i := i) (w := rl.1) (by rw [List.getElem?_map, hrl]; rfl)
          refine q_symbols (left := rl.1) (n := (i : Int)) (node0 := 0) hc n1 n3 g0' g2' (v_var g3') g5' gl' z (by omega) S5 fun Γ2 G4 σ4 H4 f0 f2 fl f5 S6 => ?_
          have z2 := Tri.Sz.word (n := (i : Int)) rl.1 (node := 0) z
          refine g_setE (a := 0) (b := 0) hc n2 f0 f5 f2 (by have := z2.en; omega) S6 fun G7 H7 S7 => ?_
          rw [← eb] at S7
          refine ⟨Γ2, G7, f0, fl, ?_, S7⟩
          have z3 := Tri.Sz.endn (n := (i : Int)) (node := (Tri.word (i : Int) (Tri.build (rules.map Prod.fst) i) 0 rl.1).2) z2
          rw [← eb] at z3
          exact ⟨z3.nb, Nat.le_trans z3.nn (by omega), z3.en, z3.ms⟩
    · have e : i = xs.length := by omega
      subst e
      refine .inl ⟨⟨xs, hx3, Nat.le_refl _⟩, k Γ' G' σ' H' ?_⟩
      rw [← hl]
      exact S'.base S2.fr
end
end Ly
namespace Ly
open PySem L2 PySem.Spec PyProof.Rows
theorem dcts_N {K : PySem.W.Frag} {G : Hp} : ∀ nn : List (List Int × Int), Dcts K G (kvN nn) (dkN nn)
  | [] => .nil
  | _ :: nn => .cons (.int _) (dcts_N nn)
theorem dcks_E {K : PySem.W.Frag} {G : Hp} : ∀ en : List (Int × Int), Dcks K G (kvE en) (dkE en)
  | [] => .nil
  | _ :: en => .cons (.int _) (dcks_E en)
end Ly

set_option maxHeartbeats 4000000
namespace K09
open PySem L2 Ly
def topS (i : Nat) : Stmt := PySem.Challenge.pw_translatory_k09_string_systems.main.body.getD i (.Pass ⟨0, 0, 0, 0⟩)
abbrev s_LeftSides_init : Stmt := inClass (topS 7) 0
abbrev N_LeftSides_init : List Str := ["self", "rules", "number", "left", "_", "node", "symbol"]
theorem sc_LeftSides_init : FnScope N_LeftSides_init ["self", "rules"] (defScope s_LeftSides_init) := ⟨rfl, rfl, rfl, by decide +kernel, rfl, by decide +kernel, by decide +kernel⟩
abbrev s_LeftSides_least_rule : Stmt := inClass (topS 7) 1
abbrev N_LeftSides_least_rule : List Str := ["self", "word", "start", "best", "node", "at"]
theorem sc_LeftSides_least_rule : FnScope N_LeftSides_least_rule ["self", "word", "start", "best"] (defScope s_LeftSides_least_rule) := ⟨rfl, rfl, rfl, by decide +kernel, rfl, by decide +kernel, by decide +kernel⟩
abbrev s_Strings_init : Stmt := inClass (topS 6) 0
abbrev N_Strings_init : List Str := ["self", "rules", "left", "right"]
theorem sc_Strings_init : FnScope N_Strings_init ["self", "rules"] (defScope s_Strings_init) := ⟨rfl, rfl, rfl, by decide +kernel, rfl, by decide +kernel, by decide +kernel⟩
abbrev s_Strings_eq : Stmt := inClass (topS 6) 1
abbrev N_Strings_eq : List Str := ["self", "other"]
theorem sc_Strings_eq : FnScope N_Strings_eq ["self", "other"] (defScope s_Strings_eq) := ⟨rfl, rfl, rfl, by decide +kernel, rfl, by decide +kernel, by decide +kernel⟩
abbrev s_Strings_step : Stmt := inClass (topS 6) 2
abbrev N_Strings_step : List Str := ["self", "configuration", "best", "place", "start", "number", "left", "right"]
theorem sc_Strings_step : FnScope N_Strings_step ["self", "configuration"] (defScope s_Strings_step) := ⟨rfl, rfl, rfl, by decide +kernel, rfl, by decide +kernel, by decide +kernel⟩
abbrev s_law_like : Stmt := topS 9
abbrev N_law_like : List Str := ["actual", "due", "k"]
theorem sc_law_like : FnScope N_law_like ["actual", "due"] (defScope s_law_like) := ⟨rfl, rfl, rfl, by decide +kernel, rfl, by decide +kernel, by decide +kernel⟩
abbrev s_law_string_rules : Stmt := topS 17
abbrev N_law_string_rules : List Str := ["draws", "count", "symbols", "found", "k", "draw", "left", "right", "j"]
theorem sc_law_string_rules : FnScope N_law_string_rules ["draws", "count", "symbols"] (defScope s_law_string_rules) := ⟨rfl, rfl, rfl, by decide +kernel, rfl, by decide +kernel, by decide +kernel⟩
abbrev s_law_strings_step : Stmt := topS 18
abbrev N_law_strings_step : List Str := ["rules", "here", "left", "right", "place"]
theorem sc_law_strings_step : FnScope N_law_strings_step ["rules", "here"] (defScope s_law_strings_step) := ⟨rfl, rfl, rfl, by decide +kernel, rfl, by decide +kernel, by decide +kernel⟩
abbrev s_law_pool : Stmt := topS 20
abbrev N_law_pool : List Str := ["script", "salt", "cell"]
theorem sc_law_pool : FnScope N_law_pool ["script"] (defScope s_law_pool) := ⟨rfl, rfl, rfl, by decide +kernel, rfl, by decide +kernel, by decide +kernel⟩
abbrev s_law_spread : Stmt := topS 21
abbrev N_law_spread : List Str := ["cell", "mixed", "total", "k"]
theorem sc_law_spread : FnScope N_law_spread ["cell"] (defScope s_law_spread) := ⟨rfl, rfl, rfl, by decide +kernel, rfl, by decide +kernel, by decide +kernel⟩
abbrev s_law_draw : Stmt := topS 22
abbrev N_law_draw : List Str := ["pool", "many", "cell", "mixed", "value"]
theorem sc_law_draw : FnScope N_law_draw ["pool", "many"] (defScope s_law_draw) := ⟨rfl, rfl, rfl, by decide +kernel, rfl, by decide +kernel, by decide +kernel⟩
abbrev s_law_some : Stmt := topS 23
abbrev N_law_some : List Str := ["pool", "many", "k"]
theorem sc_law_some : FnScope N_law_some ["pool", "many"] (defScope s_law_some) := ⟨rfl, rfl, rfl, by decide +kernel, rfl, by decide +kernel, by decide +kernel⟩
abbrev s_law_machine : Stmt := topS 24
abbrev N_law_machine : List Str := ["pool", "kind", "draws", "states", "symbols", "cells"]
theorem sc_law_machine : FnScope N_law_machine ["pool", "kind"] (defScope s_law_machine) := ⟨rfl, rfl, rfl, by decide +kernel, rfl, by decide +kernel, by decide +kernel⟩
abbrev s_law_begin : Stmt := topS 25
abbrev N_law_begin : List Str := ["pool", "kind", "data", "draws", "k"]
theorem sc_law_begin : FnScope N_law_begin ["pool", "kind", "data"] (defScope s_law_begin) := ⟨rfl, rfl, rfl, by decide +kernel, rfl, by decide +kernel, by decide +kernel⟩
abbrev s_law : Stmt := topS 26
abbrev N_law : List Str := ["script", "pool", "rows", "good", "handed", "machine", "e", "here", "k", "due"]
theorem sc_law : FnScope N_law ["script"] (defScope s_law) := ⟨rfl, rfl, rfl, by decide +kernel, rfl, by decide +kernel, by decide +kernel⟩
structure Txt (K : PySem.W.Frag) (w : World) (mg : Str → Option Value) (C_Strings C_LeftSides C_InvalidMachine C_BadArgument : Addr) : Prop where
  n_all : mg "all" = none
  n_bool : mg "bool" = none
  n_enumerate : mg "enumerate" = none
  n_int : mg "int" = none
  n_isinstance : mg "isinstance" = none
  n_len : mg "len" = none
  n_list : mg "list" = none
  n_min : mg "min" = none
  n_range : mg "range" = none
  n_str : mg "str" = none
  n_tuple : mg "tuple" = none
  m_MOST_RULES : ∃ u, mg "MOST_RULES" = some u ∧ RelV (.int 100000) u
  g_Strings : mg "Strings" = some (.ref C_Strings)
  g_LeftSides : mg "LeftSides" = some (.ref C_LeftSides)
  g_InvalidMachine : mg "InvalidMachine" = some (.ref C_InvalidMachine)
  g_BadArgument : mg "BadArgument" = some (.ref C_BadArgument)
  e_InvalidMachine : ErrP K mg "InvalidMachine" C_InvalidMachine
  cls_Strings : Cls K C_Strings
  na_Strings_rules : NoAttr K C_Strings "rules"
  na_Strings__left_sides : NoAttr K C_Strings "_left_sides"
  cls_LeftSides : Cls K C_LeftSides
  na_LeftSides__next_nodes : NoAttr K C_LeftSides "_next_nodes"
  na_LeftSides__ends : NoAttr K C_LeftSides "_ends"
  na_LeftSides__makers : NoAttr K C_LeftSides "_makers"
  k_BA : PySem.W.kitOne K (.ref C_InvalidMachine) (.ref C_BadArgument) = some false

section
variable {P : Program} {w : World} {K : PySem.W.Frag} {mg : Str → Option Value} {base : Heap} {C_Strings C_LeftSides C_InvalidMachine C_BadArgument : Addr}
theorem ok_linit (M : ∃ f fd, Mk K C_LeftSides f ∧ Fun K "__init__" "LeftSides.__init__" s_LeftSides_init f fd) (T : Txt K w mg C_Strings C_LeftSides C_InvalidMachine C_BadArgument) : MakS P w K mg base 2 "LeftSides" C_LeftSides (spInitP K C_LeftSides C_InvalidMachine A_linit) := by
  refine maks_of M T.g_LeftSides (fun _ _ _ _ _ _ us hl => match us, hl with | [_, _], _ => rfl) sc_LeftSides_init (spInitP_len (n := 1) fun _ _ ⟨_, _, _, e, _⟩ => by rw [e]; rfl) fun f cdv A outer s H0 vs Q E hr h => ⟨_, (pss_cons (ps_fld (pv 0) pe_dnewT rfl)
      (pss_cons (ps_fld (pv 0) pe_dnewK rfl)
      (pss_cons (ps_fld (pv 0) (pe_lst (pa_cons pe_int pa_nil)) rfl)
      (pss_one (ps_for (passes_of rfl) rfl (pi_enumT (by rfl) T.n_enumerate (pa_cons (pv 1) pa_nil)) (pg_tup rfl (pgs_cons (pg_name (i := 2) sc_LeftSides_init.nd rfl (by first | exact Or.inl rfl | exact Or.inr rfl)) (pgs_cons (pg_tup rfl (pgs_cons (pg_name (i := 3) sc_LeftSides_init.nd rfl (by first | exact Or.inl rfl | exact Or.inr rfl)) (pgs_cons (pg_name (i := 4) sc_LeftSides_init.nd rfl (by first | exact Or.inl rfl | exact Or.inr rfl)) pgs_nil))) pgs_nil)))
        (pss_cons (ps_set (i := 5) sc_LeftSides_init.nd rfl (by first | exact Or.inl rfl | exact Or.inr rfl) pe_int)
      (pss_cons (ps_for (passes_of rfl) rfl (pi_tup (pv 3)) (pg_name (i := 6) sc_LeftSides_init.nd rfl (by first | exact Or.inl rfl | exact Or.inr rfl))
        (pss_cons (ps_set (i := 5) sc_LeftSides_init.nd rfl (by first | exact Or.inl rfl | exact Or.inr rfl) (pe_dsetT (units1 hr) (pe_fld (pv 0) rfl) (pe_tup (pa_cons (pv 5) (pa_cons (pv 6) pa_nil))) (pe_callB (r := Ly.rLen K) call_len_seq (by rfl) T.n_len PySem.boot_len (pa_cons (pe_fld (pv 0) rfl) pa_nil)) ⟨rfl, rfl, rfl, rfl⟩))
      (pss_one (ps_if (pt_cmpR op_eq (pv 5) (pe_callB (r := Ly.rLen K) call_len_seq (by rfl) T.n_len PySem.boot_len (pa_cons (pe_fld (pv 0) rfl) pa_nil)) (nomark _)) (pss_one (ps_expr (pe_bm PySem.F.plainAttrs_list PySem.F.slot_list_append PySem.F.type_list_append mt_append (pe_fld (pv 0) rfl) (pa_cons (pv 2) pa_nil)))) pss_nil))))
      (pss_one (ps_expr (pe_dsetd (pe_fld (pv 0) rfl) (pv 5) (pv 2) ⟨rfl, rfl, rfl, rfl⟩)))))))))), ?_⟩
  obtain ⟨G0, x, dx, ds, vs', F, rfl, k, rr, ⟨rules, hl, hl1, rfl, rfl⟩, hQ⟩ := h
  have S := S4.toQ (S4.start (N := N_LeftSides_init) k (.cons (.adr x) rr))
  refine q_newPt (o := .dT []) (fun _ _ _ h => h) rfl T.cls_LeftSides T.na_LeftSides__next_nodes (by decide) S fun d1 k1 S => ?_
  refine q_newPt (o := .dK []) (fun _ _ _ h => h) rfl T.cls_LeftSides T.na_LeftSides__ends (by simp [putF]) S fun d2 k2 S => ?_
  refine q_newPt (o := .lst [.int 0]) (fun _ _ _ h => ⟨by show 1 ≤ sizeLine; decide, h⟩) rfl T.cls_LeftSides T.na_LeftSides__makers (by show (putF _ _ (putF _ _ _)).length < 1000; exact Nat.lt_of_le_of_lt (Nat.le_trans (length_putF _ _ _) (Nat.succ_le_succ (length_putF _ _ _))) (by decide)) S fun l k3 S => ?_
  have S : S4 (LW x C_LeftSides dx d1 d2 l Tri.T0) K _ _ _ _ [] _ _ _ := S
  refine g_lefts (rules := rules) T.cls_LeftSides T.na_LeftSides__next_nodes T.na_LeftSides__ends T.na_LeftSides__makers rfl (v_var rfl) rfl hl hl1 S fun Γ' G' σ' H' S => ?_
  obtain ⟨st, ex, hp⟩ := S.frozen (fun p hp => by
    simp only [List.mem_cons, List.not_mem_nil, or_false] at hp
    rcases hp with rfl | rfl | rfl
    · exact k3
    · exact k2
    · exact k1)
  have p1 := hp (l, .lst ((Tri.build (rules.map Prod.fst) rules.length).ms.map V.int)) (by simp)
  have p2 := hp (d2, .dK (kvE (Tri.build (rules.map Prod.fst) rules.length).en)) (by simp)
  have p3 := hp (d1, .dT (kvN (Tri.build (rules.map Prod.fst) rules.length).nn)) (by simp)
  exact hQ _ rfl _ _ _ st (.cons (.dct p3 (dcts_N _)) (.cons (.dcs p2 (dcks_E _)) (.cons (.lst (.inl (.inl p1)) (Reps.of_ints _)) .nil)))
end
end K09

set_option maxHeartbeats 4000000
/-! an object that another one in the making holds -/
namespace Ly
open PySem L2 PySem.Spec PyProof.Rows
section
variable {K : PySem.W.Frag} {G : Hp} {x C dx : Addr} {fs : List (Str × V)}
theorem Flds.keys : ∀ {vs : List (Str × V)} {fsd : List (Str × Dat)}, Flds K G vs fsd → vs.map Prod.fst = fsd.map Prod.fst
  | _, _, .nil => rfl
  | _, _, .cons _ r => by
    rw [List.map_cons, List.map_cons, Flds.keys r]
theorem Flds.hide (hl : G x = some (.ins C dx fs)) : ∀ {vs : List (Str × V)} {fsd : List (Str × Dat)}, (∀ p ∈ fsd, NO p.2) → Flds K G vs fsd → Flds K (del G x) vs fsd
  | _, _, _, .nil => .nil
  | _, _, n, .cons h r => .cons (Rep.hide hl (n _ List.mem_cons_self) h) (Flds.hide hl (fun p hp => n p (List.mem_cons_of_mem _ hp)) r)
theorem Rep.hideO {v : V} {C' : Addr} {fsd : List (Str × Dat)} (hl : G x = some (.ins C dx fs)) (hk : fsd.map Prod.fst ≠ fs.map Prod.fst) (hn : ∀ p ∈ fsd, NO p.2) (r : Rep K G v (.obj C' fsd)) : Rep K (del G x) v (.obj C' fsd) := by
  cases r with
  | @obj a _ dx' vs _ hg fl =>
    have ne : a ≠ x := fun e => by
      rw [e, hl] at hg
      cases hg
      exact hk fl.keys.symm
    exact .obj (by rw [del_ne ne]; exact hg) (fl.hide hl hn)
variable {Γ : List (Option Dat)} {G1 G0 H0 H : Hp} {σ : L2.St} {D : Ends} {tz : TS} {tv ta : TE} {P : Dat → Prop} {f : Str} {fsd : List (Str × Dat)} {i : Nat}
/-- self.f = e, e looking at self, e an object -/
theorem g_fldO (hi : Γ[i]? = some (some (.adr x))) (hf : Flds K G fs fsd) (h : Ev Wd0 K tv (Γ.set i (some (.obj C fsd))) P) (hp : ∀ d, P d → ∃ C' fsd', d = .obj C' fsd' ∧ fsd'.map Prod.fst ≠ fs.map Prod.fst ∧ ∀ p ∈ fsd', NO p.2) (ho : EvX (WI x C dx fs) K ta Γ (.adr x)) (hc : Cls K C) (hn : NoAttr K C f) (hl : fs.length < 1000) (S : S4 (WI x C dx fs) K G1 G0 H0 Γ [] σ G H)
    (k : ∀ y d G2 H2, P d → Rep K G2 y d → Ex G G2 → S4 (WI x C dx (putF f y fs)) K G1 G0 H0 Γ [] σ G2 H2 → D.nx σ H2) : sFld K ta tv f D σ H := by
  obtain ⟨G', e, o, g⟩ := S.lookI hi hf
  refine h σ G' H e o _ fun y d G2 H2 s p r => ?_
  obtain ⟨S2, ex2, g2⟩ := g G2 H2 s
  obtain ⟨C', fsd', ed, hk, hno⟩ := hp d p
  have r : Rep K (del G2 x) y d := by
    rw [ed] at r ⊢
    exact Rep.hideO g2 hk hno r
  refine ho σ _ H2 S2.env S2.ok _ fun v e G3 H3 s3 ee r3 => ?_
  subst ee
  cases r3
  have S3 := S2.step s3
  have hx : H3 x = some (.ins C dx fs) := S3.ok.inv
  refine ⟨x, C, dx, fs, rfl, hx, hc, hn, hl, ?_⟩
  have gx : G3 x = none := S3.ok.off x rfl
  have eg : Ex G3 (upd H3 x (.ins C dx (putF f y fs))) := fun a u e => by
    rw [upd_ne (ne_of_none e gx)]
    exact S3.ok.ex a u e
  refine k y d G3 _ p (r.mono s3.gg) (ex2.trans s3.gg) ⟨S3.env, ⟨eg, upd_same, S3.ok.off⟩, ⟨S3.stp.gg, eg, fun a u hm e => ?_, S3.stp.nw, upd_same⟩, (fun _ _ hm => nomatch hm), List.nodup_nil, S3.fr⟩
  rw [upd_ne hm]
  exact S3.stp.hh a u hm e
theorem NOd.ints : ∀ nn : List (List Int × Int), NOd (dkN nn)
  | [] => by simp [dkN, NOd]
  | p :: nn => by
    show NOd ((iK p.1, Dat.int p.2) :: dkN nn)
    rw [NOd]
    exact ⟨by simp [NO], NOd.ints nn⟩
theorem NOk.ints : ∀ en : List (Int × Int), NOk (dkE en)
  | [] => by simp [dkE, NOk]
  | p :: en => by
    show NOk (((Sum.inl p.1 : Key), Dat.int p.2) :: dkE en)
    rw [NOk]
    exact ⟨by simp [NO], NOk.ints en⟩
theorem NO.lf (t : Tri.T) : ∀ p ∈ lfF t, NO p.2 := fun p hp => by
  simp only [lfF, List.mem_cons, List.not_mem_nil, or_false] at hp
  rcases hp with rfl | rfl | rfl
  · show NO (.dct _)
    rw [NO]
    exact NOd.ints _
  · show NO (.dcs _)
    rw [NO]
    exact NOk.ints _
  · show NO (.lst _)
    rw [NO]
    exact NOs.ints _
end
/-- a string system's rules as they should be -/
def goodS (rules : List (List Int × List Int)) : Bool := rules.all fun r => !r.1.isEmpty && (r.1 ++ r.2).all fun s => decide (0 ≤ s)
def A_sinit (CL : Addr) : InitQ := fun ds b F => ∃ rules : List (List Int × List Int), rules.length ≤ 100 ∧ (∀ r ∈ rules, r.1.length ≤ 100 ∧ r.2.length ≤ 100) ∧ ds = [.lst (rules.map rlD)] ∧ b = goodS rules ∧
  F = (· = [(("rules" : Str), Dat.tup (rules.map rlD)), (("_left_sides" : Str), Dat.obj CL (lfF (Tri.build (rules.map Prod.fst) rules.length)))])
end Ly

set_option maxHeartbeats 4000000
namespace K09
open PySem L2 Ly
def unT : Dat → List Dat
  | .tup ds => ds
  | _ => []
theorem min_neg : ∀ (s : Int) (w : List Int), decide (w.foldl min s < 0) = !(s :: w).all fun x => decide (0 ≤ x)
  | s, [] => by
    by_cases h : 0 ≤ s
    · have h2 : ¬ s < 0 := by omega
      simp [h, h2]
    · have h2 : s < 0 := by omega
      simp [h, h2]
  | s, a :: w => by
    rw [List.foldl_cons, min_neg (min s a) w]
    simp only [List.all_cons]
    by_cases h : 0 ≤ s <;> by_cases h2 : 0 ≤ a <;> simp [h, h2, Int.le_min] <;> omega
section
variable {P : Program} {w : World} {K : PySem.W.Frag} {mg : Str → Option Value} {base : Heap} {C_Strings C_LeftSides C_InvalidMachine C_BadArgument : Addr}
theorem ok_sinit (M : ∃ f fd, Mk K C_Strings f ∧ Fun K "__init__" "Strings.__init__" s_Strings_init f fd) (T : Txt K w mg C_Strings C_LeftSides C_InvalidMachine C_BadArgument) (c_LeftSides_init : MakS P w K mg base 2 "LeftSides" C_LeftSides (spInitP K C_LeftSides C_InvalidMachine A_linit)) : MakS P w K mg base 4 "Strings" C_Strings (spInitQ K C_Strings C_InvalidMachine (A_sinit C_LeftSides)) := by
  refine maks_of M T.g_Strings (fun _ _ _ _ _ _ us hl => match us, hl with | [_, _], _ => rfl) sc_Strings_init (spInitQ_len (n := 1) fun _ _ _ ⟨_, _, _, e, _⟩ => by rw [e]; rfl) fun f cdv A outer s H0 vs Q E hr h => ⟨_, (pss_cons (ps_if (pt_cmpR op_gt (pe_callB (r := Ly.rLen K) call_len_seq (by rfl) T.n_len PySem.boot_len (pa_cons (pv 1) pa_nil)) (C8.pe_gc (v := .int 100000) rfl T.m_MOST_RULES) (nomark _)) (pss_one (ps_raiseE rfl (takes_of rfl rfl rfl rfl) T.e_InvalidMachine rfl)) pss_nil)
      (pss_cons (ps_for (passes_of rfl) rfl (pi_list (pv 1)) (pg_tup rfl (pgs_cons (pg_name (i := 2) sc_Strings_init.nd rfl (by first | exact Or.inl rfl | exact Or.inr rfl)) (pgs_cons (pg_name (i := 3) sc_Strings_init.nd rfl (by first | exact Or.inl rfl | exact Or.inr rfl)) pgs_nil)))
        (pss_one (ps_if (PW.pt (pw_or (pt_not (pt_truth (pv 2) (fun _ => rfl))) (pw_or1 (pt_cmpR op_lt (pe_callB (r := rMinT K) (cr_minT rfl hr.units) (by rfl) T.n_min (by decide +kernel) (pa_cons (pe_op (r := rCatA K) op_catA (pv 2) (pv 3)) pa_nil)) pe_int (nomark _))))) (pss_one (ps_raiseE rfl (takes_of rfl rfl rfl rfl) T.e_InvalidMachine rfl)) pss_nil)))
      (pss_cons (ps_fld (pv 0) (pe_tupleOf rfl T.n_tuple (pv 1)) rfl)
      (pss_one (ps_fld (pv 0) (pe_mkX c_LeftSides_init hr (by decide) rfl (pa_cons (pe_fld (pv 0) rfl) pa_nil)) rfl))))), ?_⟩
  obtain ⟨G0, x, dx, ds, vs', b, F, rfl, k, rr, ⟨rules, hlen, hl5, rfl, hb, rfl⟩, hE, hQ⟩ := h
  have bad : goodS rules = false → ∀ H2, E (.ref C_InvalidMachine) none H2 := fun h H2 => hE (by rw [hb, h]) H2
  have S := S4.start (N := N_Strings_init) k (.cons (.adr x) rr)
  refine q_when (EvBX.to (b_testx (v_gt (v_lenL (v_var (d := .lst (rules.map rlD)) rfl)) v_int)) (decide_eq_false (by rw [List.length_map]; omega))) S (fun e => nomatch e) fun _ G H S => ?_
  refine q_forL2 (ds := rules.map rlD) (js := [2, 3]) (us := unT) (v_var rfl) (fun d hd => by
    obtain ⟨r, _, rfl⟩ := List.mem_map.mp hd
    exact ⟨rfl, rfl⟩) S (fun i Γ O => O = [] ∧ ∃ z1 z2, Γ = [some (.adr x), some (.lst (rules.map rlD)), z1, z2] ∧ goodS (rules.take i) = true) ⟨rfl, none, none, rfl, rfl⟩ ?_ ?_
  · rintro G1 i d Γ O σ G H hd ⟨rfl, z1, z2, rfl, hall⟩ S
    rw [List.getElem?_map] at hd
    obtain ⟨r, hy, rfl⟩ := Option.map_eq_some_iff.mp hd
    have hm := List.mem_of_getElem? hy
    have h5 := hl5 r hm
    refine g_if (EvBX.to (b_orx (a := r.1.isEmpty) (b := !(r.1 ++ r.2).all fun s => decide (0 ≤ s)) (EvBX.to (b_notx (b_truT (v_var (d := .tup (r.1.map Dat.int)) rfl))) (by rw [Bool.not_not]; cases r.1 <;> rfl)) fun he => ?_) rfl) S (fun e G H S => ?_) (fun e G H S => ?_)
    · match r, he, h5 with
      | (s :: w, rt), _, h5 =>
        refine EvBX.to (b_testx (v_lt (v_minT (n := s) (ns := w ++ rt) (EvX.to (v_cat (v_var (d := .tup ((s :: w).map Dat.int)) rfl) (v_var (d := .tup (rt.map Dat.int)) rfl) (by simp at h5 ⊢; omega)) (by rw [← List.map_append]; rfl))) v_int)) (min_neg s (w ++ rt))
    · refine bad ?_ _
      unfold goodS
      rw [List.all_eq_false]
      refine ⟨r, hm, ?_⟩
      have e := e.symm
      rw [Bool.or_eq_true] at e
      intro q
      rw [Bool.and_eq_true] at q
      rcases e with e | e
      · rw [e] at q
        exact absurd q.1 (by decide)
      · rw [q.2] at e
        exact absurd e (by decide)
    · refine ⟨_, _, _, ⟨rfl, some (.tup (r.1.map Dat.int)), some (.tup (r.2.map Dat.int)), rfl, ?_⟩, S⟩
      have e := e.symm
      rw [Bool.or_eq_false_iff] at e
      unfold goodS at hall ⊢
      rw [List.take_add_one, hy, List.all_append, hall]
      have e2 : ((r.1 ++ r.2).all fun s => decide (0 ≤ s)) = true := by
        cases h : (r.1 ++ r.2).all fun s => decide (0 ≤ s) with
        | true => rfl
        | false => rw [h] at e; exact absurd e.2 (by decide)
      rw [show (some r).toList = [r] from rfl, List.all_cons, List.all_nil, e.1, e2]
      rfl
  · rintro Γ O σ G H ⟨rfl, z1, z2, rfl, hall⟩ S
    rw [List.length_map, List.take_length] at hall
    refine q_fld (v_tupleLx (v_var (d := .lst (rules.map rlD)) rfl)) (v_var rfl) T.cls_Strings T.na_Strings_rules (by decide) S fun y2 d2 G2 H2 p2 r2 S => ?_
    subst p2
    refine g_fldO (i := 0) (fsd := [(("rules" : Str), Dat.tup (rules.map rlD))]) rfl (.cons r2 .nil) (v_makeP (a_consx (v_fld (v_var rfl) T.cls_Strings T.na_Strings_rules rfl) a_nil) ⟨rules, hlen, fun r hr => (hl5 r hr).1, rfl, rfl⟩) (fun d ⟨fsd, e, e2⟩ => ⟨C_LeftSides, fsd, e, by rw [e2]; simp [lfF, putF], by rw [e2]; exact NO.lf _⟩) (v_var rfl) T.cls_Strings T.na_Strings__left_sides (by simp [putF]) S fun y3 d3 G3 H3 p3 r3 ex S => ?_
    obtain ⟨fsd, rfl, e2⟩ := p3
    subst e2
    exact hQ (by rw [hb]; exact hall) _ rfl G3 H3 _ S.stp (.cons (r2.mono ex) (.cons r3 .nil))
end
end K09

set_option maxHeartbeats 4000000
/-! looking a left side up -/
namespace Tri
theorem lk_dct {nn : List (List Int × Int)} {k : List Int} : Ly.valD (Ly.dkN nn) (Ly.iK k) = (lk nn k).map Ly.Dat.int := by
  unfold Ly.valD lk Ly.dkN
  rw [List.find?_map, Option.map_map, Option.map_map]
  congr 1
  congr 1
  funext p
  exact decide_eq_decide.mpr ⟨fun h => Ly.iK_inj h, fun h => by show Ly.iK p.1 = Ly.iK k; rw [h]⟩
/-- the numbers of the nodes are no less than 0 -/
def np (t : T) : Prop := ∀ p ∈ t.nn, 0 ≤ p.2
theorem one_np {n node s : Int} {t : T} (h : np t) : np (one n t node s).1 := by
  unfold one
  cases e : lk t.nn [node, s] with
  | some c => exact h
  | none =>
    intro p hp
    rcases List.mem_append.mp hp with hp | hp
    · exact h p hp
    · rw [List.mem_singleton] at hp
      subst hp
      show (0 : Int) ≤ (t.ms.length : Int)
      omega
theorem word_np {n : Int} : ∀ (w : List Int) {t : T} {node : Int}, np t → np (word n t node w).1
  | [], _, _, h => h
  | s :: w, t, node, h => word_np w (one_np h)
theorem endn_np {n node : Int} {t : T} (h : np t) : np (endn n t node) := by
  unfold endn
  cases lk t.en node with
  | some _ => exact h
  | none => exact h
theorem build_np (ls : List (List Int)) : ∀ n, np (build ls n)
  | 0 => fun _ h => nomatch h
  | n + 1 => endn_np (word_np _ (build_np ls n))
theorem build_sz {ls : List (List Int)} (h : ∀ w ∈ ls, w.length ≤ 100) : ∀ n, n ≤ ls.length → Sz (build ls n) (100 * n) n
  | 0, _ => Sz.zero
  | n + 1, hn => by
    have z := Sz.endn (n := (n : Int)) (node := (word (n : Int) (build ls n) 0 ((ls[n]?).getD [])).2) (Sz.word (n := (n : Int)) ((ls[n]?).getD []) (node := 0) (build_sz h n (by omega)))
    have hl : ((ls[n]?).getD []).length ≤ 100 := by
      rw [List.getElem?_eq_getElem (by omega)]
      exact h _ (List.getElem_mem _)
    exact ⟨z.nb, Nat.le_trans z.nn (by omega), z.en, z.ms⟩
end Tri
namespace Ly
open PySem L2 PySem.Spec PyProof.Rows
section
variable {W : Wd} {K : PySem.W.Frag} {Γ : List (Option Dat)} {ta tb tc : TE} {G : Hp}
theorem dcks_inv : ∀ {en : List (Int × Int)} {vs : List (Key × V)}, Dcks K G vs (dkE en) → vs = kvE en
  | [], _, h => by
    cases h
    rfl
  | p :: en, vs, h => by
    have h : Dcks K G vs (((Sum.inl p.1 : Key), Dat.int p.2) :: dkE en) := h
    cases h with
    | cons h1 h2 =>
      cases h1
      rw [dcks_inv h2]
      rfl
/-- d.get(i, j) -/
theorem v_getE2 {en : List (Int × Int)} {i j : Int} (h : EvX W K ta Γ (.dcs (dkE en))) (hy : EvX W K tb Γ (.int i)) (hx : EvX W K tc Γ (.int j)) : EvX W K (tDGet2 ta tb tc) Γ (.int ((Tri.lk en i).getD j)) := fun σ G H env k Q q =>
  h σ G H env k _ fun v e G2 H2 s ee r => by
    subst ee
    have k2 := s.ok k
    cases r with
    | @dcs a vs es hg rd =>
      have ev := dcks_inv rd
      subst ev
      refine ⟨a, rfl, .inl ⟨_, .inl (k2.ex _ _ hg)⟩, ?_⟩
      refine hy σ G2 H2 (env.mono s.gg) k2 _ fun w e3 G3 H3 s3 e4 r3 => ?_
      subst e4
      cases r3
      have s13 := s.trans s3
      have k3 := s13.ok k
      refine hx σ G3 H3 (env.mono s13.gg) k3 _ fun z e5 G5 H5 s5 ez rz => ?_
      subst ez
      cases rz
      have s15 := s13.trans s5
      have hg5 : H5 a = some (.dK (kvE en)) := (s15.ok k).ex _ _ (s5.gg _ _ (s3.gg _ _ hg))
      refine ⟨valV (kvE en) (Sum.inl i), DGet.k (k := Sum.inl i) hg5, ?_⟩
      rw [lk_E]
      cases e : Tri.lk en i with
      | none => exact q (.int j) (.int j) _ _ s15 (by rw [e]; rfl) (.int _)
      | some c => exact q (.int c) (.int c) _ _ s15 (by rw [e]; rfl) (.int _)
end
def A_least (CL : Addr) : Sig := fun ds P => ∃ (rules : List (List Int × List Int)) (word : List Int) (s : Nat) (best : Int), rules.length ≤ 100 ∧ (∀ r ∈ rules, r.1.length ≤ 100) ∧ word.length ≤ 100000 ∧ s ≤ word.length ∧
  ds = [.obj CL (lfF (Tri.build (rules.map Prod.fst) rules.length)), .tup (word.map Dat.int), .int (s : Int), .int best] ∧ P = (· = .int (Tri.walk (Tri.build (rules.map Prod.fst) rules.length) best 0 (word.drop s)))
end Ly

set_option maxHeartbeats 4000000
namespace K09
open PySem L2 Ly
section
variable {P : Program} {w : World} {K : PySem.W.Frag} {mg : Str → Option Value} {base : Heap} {C_Strings C_LeftSides C_InvalidMachine C_BadArgument : Addr}
theorem ok_least (M : ∃ f fd, Meth K C_LeftSides "least_rule" f ∧ Fun K "least_rule" "LeftSides.least_rule" s_LeftSides_least_rule f fd) (T : Txt K w mg C_Strings C_LeftSides C_InvalidMachine C_BadArgument) : C8.Met P w K mg base 1 C_LeftSides "least_rule" (spOf Wd0 K (A_least C_LeftSides)) [] := by
  refine met_of T.cls_LeftSides M (fun _ _ _ _ _ _ us hl => match us, hl with | [_, _, _, _], _ => rfl) sc_LeftSides_least_rule (spOf_len (n := 4) fun _ _ ⟨_, _, _, _, _, _, _, _, e, _⟩ => by rw [e]; rfl) fun f cdv A outer s H0 vs Q E hr h => ⟨_, (pss_cons (ps_set (i := 4) sc_LeftSides_least_rule.nd rfl (by first | exact Or.inl rfl | exact Or.inr rfl) pe_int)
      (Evl.pss_cut (ps_for PassesOwn.never rfl (pi_range2 rfl T.n_range (pa_cons (pv 2) (pa_cons (pe_callB (r := Ly.rLen K) call_len_seq (by rfl) T.n_len PySem.boot_len (pa_cons (pv 1) pa_nil)) pa_nil))) (pg_name (i := 5) sc_LeftSides_least_rule.nd rfl (by first | exact Or.inl rfl | exact Or.inr rfl))
        (pss_cons (ps_set (i := 4) sc_LeftSides_least_rule.nd rfl (by first | exact Or.inl rfl | exact Or.inr rfl) (pe_dget1 (units1 hr) (pe_fld (pv 0) rfl) (pe_tup (pa_cons (pv 4) (pa_cons (pe_ix (r := rIxT K) ix_tup (pv 1) (pv 5) (fun _ _ => rfl)) pa_nil))) ⟨rfl, rfl, rfl, rfl⟩))
      (pss_cons (ps_if (PW.pt (pw_or (pt_cmp (pc_isN (pv 4))) (pw_or1 (pt_cmpR op_ge (pe_ix (r := rIxL K) ix_list (pe_fld (pv 0) rfl) (pv 4) (fun _ _ => rfl)) (pv 3) (nomark _))))) (pss_one ps_break) pss_nil)
      (pss_one (ps_set (i := 3) sc_LeftSides_least_rule.nd rfl (by first | exact Or.inl rfl | exact Or.inr rfl) (pe_callB (call_min2 rfl) (by rfl) T.n_min (by decide +kernel) (pa_cons (pv 3) (pa_cons (pe_dget2 (units1 hr) (pe_fld (pv 0) rfl) (pv 4) (pv 3) ⟨rfl, rfl, rfl, rfl⟩) pa_nil))))))))
      (pss_one (ps_ret (pv 3))))), ?_⟩
  obtain ⟨G0, ds, P0, k, rr, ⟨rules, word, st, best, hlen, hl5, hwl, hst, rfl, rfl⟩, hQ⟩ := h
  have hnp := Tri.build_np (rules.map Prod.fst) rules.length
  have hsz := Tri.build_sz (ls := rules.map Prod.fst) (fun w hw => by
    obtain ⟨r, hr, rfl⟩ := List.mem_map.mp hw
    exact hl5 r hr) rules.length (by rw [List.length_map]; exact Nat.le_refl _)
  generalize Tri.build (rules.map Prod.fst) rules.length = t at *
  have S := S4.start (N := N_LeftSides_least_rule) k rr
  refine q_setx (d := .int 0) v_int S fun σ G H S => ?_
  refine q_cut (Word Wd0 K G0 G0 H0 fun Γ O => O = [] ∧ Γ[3]? = some (some (.int (Tri.walk t best 0 (word.drop st))))) ?_ ?_
  · have hw : (word.map Dat.int).length = word.length := List.length_map _
    refine g_for2 (lo := (st : Int)) (hi := (word.length : Int)) (a_consx (v_var rfl) (a_consx (EvX.to (v_lenT (v_var (d := .tup (word.map Dat.int)) rfl)) (by rw [hw])) a_nil)) (by omega) S
      (fun j Γ O => O = [] ∧ st + j ≤ word.length ∧ ∃ b node z, Γ = [some (.obj C_LeftSides (lfF t)), some (.tup (word.map Dat.int)), some (.int (st : Int)), some (.int b), some (.int node), z] ∧ Tri.walk t best 0 (word.drop st) = Tri.walk t b node (word.drop (st + j))) ⟨rfl, hst, best, 0, none, rfl, rfl⟩ ?_ ?_
    · rintro j Γ O σ G H hj ⟨rfl, hle, b, node, z, rfl, hwalk⟩ S
      have hlt : st + j < word.length := by omega
      have hd : word.drop (st + j) = word[st + j] :: word.drop (st + j + 1) := List.drop_eq_getElem_cons hlt
      have hat : (word.map Dat.int)[st + j]? = some (.int word[st + j]) := by rw [List.getElem?_map, List.getElem?_eq_getElem hlt]; rfl
      rw [hd] at hwalk
      have step : Tri.walk t b node (word[st + j] :: word.drop (st + j + 1)) = match Tri.lk t.nn [node, word[st + j]] with
        | none => b
        | some c => match t.ms[c.toNat]? with
          | none => b
          | some m => if b ≤ m then b else Tri.walk t (min b ((Tri.lk t.en c).getD b)) c (word.drop (st + j + 1)) := rfl
      rw [step] at hwalk
      have look := v_getD (W := Wd0) (K := K) (ns := [node, word[st + j]]) (v_fld (v_var (i := 0) (Γ := [some (.obj C_LeftSides (lfF t)), some (.tup (word.map Dat.int)), some (.int (st : Int)), some (.int b), some (.int node), some (.int ((st : Int) + j))]) rfl) T.cls_LeftSides T.na_LeftSides__next_nodes rfl) (a_consx (v_var (i := 4) (d := .int node) rfl) (a_consx (v_ixT (j := st + j) (d := .int word[st + j]) (v_var (i := 1) rfl) (v_var (i := 5) rfl) (by omega) hat) a_nil)) (by simp)
      rw [Tri.lk_dct] at look
      refine q_setx look S fun σ G H S => ?_
      cases e : Tri.lk t.nn [node, word[st + j]] with
      | none =>
        rw [e] at hwalk S
        refine q_if (EvBX.to (b_orx (a := true) (b := true) (b_Bx (v_isNx (v_var (d := .non) rfl))) fun h => nomatch h) rfl) S (fun _ G H S => ?_) (fun h => nomatch h)
        exact ⟨_, _, _, ⟨rfl, by rw [hwalk]; rfl⟩, S⟩
      | some c =>
        rw [e] at hwalk S
        obtain ⟨pp, hp, hp2⟩ := Tri.lk_mem e
        have c1 := hsz.nb pp hp
        have c0 := hnp pp hp
        rw [hp2] at c0 c1
        obtain ⟨cn, rfl⟩ := Int.eq_ofNat_of_zero_le c0
        have hm : t.ms[cn]? = some t.ms[cn] := List.getElem?_eq_getElem (by omega)
        have hm2 : (t.ms.map Dat.int)[cn]? = some (.int (t.ms[cn]'(by omega))) := by rw [List.getElem?_map, hm]; rfl
        have hwalk : Tri.walk t best 0 (word.drop st) = if b ≤ t.ms[cn]'(by omega) then b else Tri.walk t (min b ((Tri.lk t.en (cn : Int)).getD b)) (cn : Int) (word.drop (st + j + 1)) := by
          rw [hwalk]
          show (match t.ms[cn]? with | none => b | some m => _) = _
          rw [hm]
        refine q_if (b_orx (a := false) (b := decide (b ≤ t.ms[cn]'(by omega))) (b_Bx (v_isNx (v_var (d := .int (cn : Int)) rfl))) fun _ => b_testx (v_ge (v_ixL (j := cn) (v_fld (v_var (i := 0) rfl) T.cls_LeftSides T.na_LeftSides__makers rfl) (v_var rfl) rfl hm2) (v_var rfl))) S (fun h G H S => ?_) (fun h G H S => ?_)
        · have h : b ≤ t.ms[cn]'(by omega) := by simpa using h.symm
          exact ⟨_, _, _, ⟨rfl, by rw [hwalk, if_pos h]; rfl⟩, S⟩
        · have h : ¬ b ≤ t.ms[cn]'(by omega) := by simpa using h.symm
          refine g_setx (v_min2 (v_var (i := 3) (d := .int b) rfl) (v_getE2 (v_fld (v_var (i := 0) rfl) T.cls_LeftSides T.na_LeftSides__ends rfl) (v_var (i := 4) (d := .int (cn : Int)) rfl) (v_var (i := 3) (d := .int b) rfl))) S fun σ G H S => ?_
          refine ⟨_, _, _, ⟨rfl, by omega, _, (cn : Int), _, rfl, ?_⟩, S⟩
          rw [hwalk, if_neg h]
          have em : min b ((Tri.lk t.en (cn : Int)).getD b) = if (Tri.lk t.en (cn : Int)).getD b < b then (Tri.lk t.en (cn : Int)).getD b else b := by
            split <;> omega
          rw [em]
          rfl
    · rintro Γ O σ G H ⟨rfl, hle, b, node, z, rfl, hwalk⟩ S
      refine ⟨_, _, _, ⟨rfl, ?_⟩, S⟩
      have hn : st + (((word.length : Int) - (st : Int)).toNat) = word.length := by omega
      rw [hn, List.drop_length] at hwalk
      rw [hwalk]
      rfl
  · rintro σ H ⟨Γ, O, G, ⟨rfl, h3⟩, S⟩
    exact g_ret (v_var h3) S hQ
end
end K09

set_option maxHeartbeats 4000000
namespace Ly
open PySem L2 PySem.Spec PyProof.Rows
def StepP (rules : List (List Int × List Int)) (conf : List Int) (d : Dat) : Prop :=
  (d = .non ∧ ∀ r s, s < conf.length → ¬ Tri.Hit (rules.map Prod.fst) [] (conf.drop s) r) ∨
    ∃ (b pl : Nat) (rl : List Int × List Int), rules[b]? = some rl ∧ pl < conf.length ∧ Tri.Hit (rules.map Prod.fst) [] (conf.drop pl) b ∧ (∀ s, s < pl → ¬ Tri.Hit (rules.map Prod.fst) [] (conf.drop s) b) ∧
      (∀ r s, s < conf.length → Tri.Hit (rules.map Prod.fst) [] (conf.drop s) r → b ≤ r) ∧ d = .tup ((conf.take pl ++ rl.2 ++ conf.drop (pl + rl.1.length)).map Dat.int)
abbrev sF (CL : Addr) (rules : List (List Int × List Int)) : List (Str × Dat) := [(("rules" : Str), Dat.tup (rules.map rlD)), (("_left_sides" : Str), Dat.obj CL (lfF (Tri.build (rules.map Prod.fst) rules.length)))]
def A_sstep (CS CL : Addr) : Sig := fun ds P => ∃ (rules : List (List Int × List Int)) (conf : List Int), rules.length ≤ 100 ∧ (∀ r ∈ rules, r.1.length ≤ 100 ∧ r.2.length ≤ 100) ∧ conf.length ≤ 10000 ∧ ds = [.obj CS (sF CL rules), .tup (conf.map Dat.int)] ∧ P = StepP rules conf
/-- it tells one datum only -/
theorem StepP.one {rules : List (List Int × List Int)} {conf : List Int} {d e : Dat} (h1 : StepP rules conf d) (h2 : StepP rules conf e) : d = e := by
  rcases h1 with ⟨rfl, n1⟩ | ⟨b, pl, rl, hr, hp, hh, hf, hm, rfl⟩ <;> rcases h2 with ⟨rfl, n2⟩ | ⟨b2, pl2, rl2, hr2, hp2, hh2, hf2, hm2, rfl⟩
  · rfl
  · exact absurd hh2 (n1 _ _ hp2)
  · exact absurd hh (n2 _ _ hp)
  · have eb : b = b2 := Nat.le_antisymm (hm _ _ hp2 hh2) (hm2 _ _ hp hh)
    subst eb
    have ep : pl = pl2 := by
      rcases Nat.lt_trichotomy pl pl2 with h | h | h
      · exact absurd hh (hf2 _ h)
      · exact h
      · exact absurd hh2 (hf _ h)
    subst ep
    rw [hr] at hr2
    cases hr2
    rfl
/-- a left side that is not empty stands at a place -/
theorem hit_iff {rules : List (List Int × List Int)} {conf : List Int} {r s : Nat} {rl : List Int × List Int} (hr : rules[r]? = some rl) (hne : rl.1 ≠ []) : Tri.Hit (rules.map Prod.fst) [] (conf.drop s) r ↔ (conf.drop s).take rl.1.length = rl.1 := by
  have hl : (rules.map Prod.fst)[r]? = some rl.1 := by rw [List.getElem?_map, hr]; rfl
  constructor
  · rintro ⟨q, hq, hp, e⟩
    rw [hl, List.nil_append] at e
    cases e
    exact (List.prefix_iff_eq_take.mp hp).symm
  · intro h
    exact ⟨rl.1, hne, List.prefix_iff_eq_take.mpr h.symm, by rw [hl, List.nil_append]⟩
end Ly

set_option maxHeartbeats 4000000
namespace K09
open PySem L2 Ly
section
variable {P : Program} {w : World} {K : PySem.W.Frag} {mg : Str → Option Value} {base : Heap} {C_Strings C_LeftSides C_InvalidMachine C_BadArgument : Addr}
theorem ok_sstep (M : ∃ f fd, Meth K C_Strings "step" f ∧ Fun K "step" "Strings.step" s_Strings_step f fd) (T : Txt K w mg C_Strings C_LeftSides C_InvalidMachine C_BadArgument) (c_LeftSides_least_rule : C8.Met P w K mg base 1 C_LeftSides "least_rule" (spOf Wd0 K (A_least C_LeftSides)) []) : C8.Met P w K mg base 2 C_Strings "step" (spOf Wd0 K (A_sstep C_Strings C_LeftSides)) [] := by
  refine met_of T.cls_Strings M (fun _ _ _ _ _ _ us hl => match us, hl with | [_, _], _ => rfl) sc_Strings_step (spOf_len (n := 2) fun _ _ ⟨_, _, _, _, _, e, _⟩ => by rw [e]; rfl) fun f cdv A outer s H0 vs Q E hr h => ⟨_, (pss_cons (ps_set (i := 2) sc_Strings_step.nd rfl (by first | exact Or.inl rfl | exact Or.inr rfl) (pe_callB (r := Ly.rLen K) call_len_seq (by rfl) T.n_len PySem.boot_len (pa_cons (pe_fld (pv 0) rfl) pa_nil)))
      (pss_cons (ps_set (i := 3) sc_Strings_step.nd rfl (by first | exact Or.inl rfl | exact Or.inr rfl) pe_int)
      (pss_cons (ps_for PassesOwn.never rfl (pi_range1 rfl T.n_range (pa_cons (pe_callB (r := Ly.rLen K) call_len_seq (by rfl) T.n_len PySem.boot_len (pa_cons (pv 1) pa_nil)) pa_nil)) (pg_name (i := 4) sc_Strings_step.nd rfl (by first | exact Or.inl rfl | exact Or.inr rfl))
        (pss_cons (ps_set (i := 5) sc_Strings_step.nd rfl (by first | exact Or.inl rfl | exact Or.inr rfl) (C8.pe_mt c_LeftSides_least_rule hr (by decide) (pe_fld (pv 0) rfl) (pa_cons (pv 1) (pa_cons (pv 4) (pa_cons (pv 2) pa_nil)))))
      (pss_one (ps_if (pt_cmpR op_lt (pv 5) (pv 2) (nomark _)) (pss_cons (ps_set (i := 2) sc_Strings_step.nd rfl (by first | exact Or.inl rfl | exact Or.inr rfl) (pv 5))
      (pss_one (ps_set (i := 3) sc_Strings_step.nd rfl (by first | exact Or.inl rfl | exact Or.inr rfl) (pv 4)))) pss_nil))))
      (pss_cons (ps_if (pt_cmpR op_eq (pv 2) (pe_callB (r := Ly.rLen K) call_len_seq (by rfl) T.n_len PySem.boot_len (pa_cons (pe_fld (pv 0) rfl) pa_nil)) (nomark _)) (pss_one (ps_ret pe_non)) pss_nil)
      (pss_cons (ps_asg (pe_ix (r := rIxT K) ix_tup (pe_fld (pv 0) rfl) (pv 2) (fun _ _ => rfl)) (pg_tup rfl (pgs_cons (pg_name (i := 6) sc_Strings_step.nd rfl (by first | exact Or.inl rfl | exact Or.inr rfl)) (pgs_cons (pg_name (i := 7) sc_Strings_step.nd rfl (by first | exact Or.inl rfl | exact Or.inr rfl)) pgs_nil))))
      (pss_one (ps_ret (pe_op (r := rCatA K) op_catA (pe_op (r := rCatA K) op_catA (pe_slice (r := rSlA K) sl_tupA (pv 1) po_none (po_some (pv 3))) (pv 7)) (pe_slice (r := rSlA K) sl_tupA (pv 1) (po_some (pe_op op_add (pv 3) (pe_callB (r := Ly.rLen K) call_len_seq (by rfl) T.n_len PySem.boot_len (pa_cons (pv 6) pa_nil)))) po_none))))))))), ?_⟩
  obtain ⟨G0, ds, P0, k, rr, ⟨rules, conf, hlen, hl5, hcl, rfl, rfl⟩, hQ⟩ := h
  have S := S4.start (N := N_Strings_step) k rr
  refine q_setx (d := .int (rules.length : Int)) (EvX.to (v_lenT (v_fld (v_var rfl) T.cls_Strings T.na_Strings_rules rfl)) (by rw [List.length_map])) S fun σ G H S => ?_
  refine q_setx (d := .int 0) v_int S fun σ G H S => ?_
  have hl : (rules.map Prod.fst).length = rules.length := List.length_map _
  obtain ⟨ps, tr⟩ := Tri.build_tr (rules.map Prod.fst) rules.length (by omega)
  rw [show (rules.map Prod.fst).take rules.length = rules.map Prod.fst by rw [← hl, List.take_length]] at tr
  have hc : (conf.map Dat.int).length = conf.length := List.length_map _
  refine q_for1 (n := (conf.length : Int)) (a_consx (EvX.to (v_lenT (v_var (d := .tup (conf.map Dat.int)) rfl)) (by rw [hc])) a_nil) (by omega) S
    (fun i Γ O => O = [] ∧ ∃ b p z4 z5, Γ = [some (.obj C_Strings (sF C_LeftSides rules)), some (.tup (conf.map Dat.int)), some (.int b), some (.int p), z4, z5, none, none] ∧ Tri.Best (rules.map Prod.fst) conf i b p) ⟨rfl, (rules.length : Int), 0, none, none, rfl, by
      have := Tri.Best.zero (rules.map Prod.fst) conf 0
      rwa [hl] at this⟩ ?_ ?_ (by omega)
  · rintro i Γ O σ G H hi ⟨rfl, b, p, z4, z5, rfl, hB⟩ S
    obtain ⟨n1, n2⟩ := Tri.Best.next tr hB
    refine q_setx (d := .int (Tri.walk (Tri.build (rules.map Prod.fst) rules.length) b 0 (conf.drop i))) (v_meth0 (v_fld (v_var (i := 0) rfl) T.cls_Strings T.na_Strings__left_sides rfl) rfl (a_consx (v_var (i := 1) (d := .tup (conf.map Dat.int)) rfl) (a_consx (v_var (i := 4) (d := .int (i : Int)) rfl) (a_consx (v_var (i := 2) (d := .int b) rfl) a_nil))) fun ds e => by subst e; exact ⟨rules, conf, i, b, hlen, fun r hr => (hl5 r hr).1, by omega, by omega, rfl, rfl⟩) S fun σ G H S => ?_
    refine g_if (b_testx (v_lt (v_var (i := 5) (d := .int (Tri.walk (Tri.build (rules.map Prod.fst) rules.length) b 0 (conf.drop i))) rfl) (v_var (i := 2) (d := .int b) rfl))) S (fun e G H S => ?_) (fun e G H S => ?_)
    · have e : Tri.walk (Tri.build (rules.map Prod.fst) rules.length) b 0 (conf.drop i) < b := by simpa using e.symm
      refine q_setx (v_var (i := 5) (d := .int (Tri.walk (Tri.build (rules.map Prod.fst) rules.length) b 0 (conf.drop i))) rfl) S fun σ G H S => ?_
      refine g_setx (v_var (i := 4) (d := .int (i : Int)) rfl) S fun σ G H S => ?_
      exact ⟨_, _, _, ⟨rfl, _, _, _, _, rfl, n1 e⟩, S⟩
    · have e : ¬ Tri.walk (Tri.build (rules.map Prod.fst) rules.length) b 0 (conf.drop i) < b := by simpa using e.symm
      exact ⟨_, _, _, ⟨rfl, _, _, _, _, rfl, n2 e⟩, S⟩
  · rintro Γ O σ G H ⟨rfl, b, p, z4, z5, rfl, hB⟩ S
    rw [Int.toNat_natCast] at hB
    refine q_when (b_testx (v_eqI (v_var (i := 2) (d := .int b) rfl) (EvX.to (v_lenT (v_fld (v_var (i := 0) rfl) T.cls_Strings T.na_Strings_rules rfl)) (by rw [List.length_map])))) S (fun e G H S => ?_) fun e G H S => ?_
    · have e : b = (rules.length : Int) := by simpa using e.symm
      refine g_ret (P := StepP rules conf) (Ev.imp v_non fun d hd => ?_) S hQ
      subst hd
      refine .inl ⟨rfl, ?_⟩
      rcases hB with ⟨_, h⟩ | ⟨b', pl, h1, _, h3, _⟩
      · exact h
      · omega
    · have e : b ≠ (rules.length : Int) := by simpa using e.symm
      rcases hB with ⟨h1, _⟩ | ⟨b', pl, rfl, rfl, h3, h4, h5, h6, h7⟩
      · exact absurd (h1.trans (by rw [hl])) e
      · rw [hl] at h3
        have hr : rules[b']? = some rules[b'] := List.getElem?_eq_getElem h3
        have hrd : (rules.map rlD)[b']? = some (rlD rules[b']) := by rw [List.getElem?_map, hr]; rfl
        have h55 := hl5 _ (List.getElem_mem h3)
        refine q_tup (js := [6, 7]) (ds := [.tup (rules[b'].1.map Dat.int), .tup (rules[b'].2.map Dat.int)]) (v_ixT (j := b') (v_fld (v_var (i := 0) rfl) T.cls_Strings T.na_Strings_rules rfl) (v_var (i := 2) rfl) rfl hrd) rfl rfl S fun σ G H S => ?_
        refine g_ret (P := StepP rules conf) (Ev.imp (v_cat (v_cat (v_slT (v_var (i := 1) (d := .tup (conf.map Dat.int)) rfl) o_none (o_some (v_var (i := 3) (d := .int (pl : Int)) rfl))) (v_var (i := 7) (d := .tup (rules[b'].2.map Dat.int)) rfl) (by rw [cutD_to, List.length_take, List.length_map, List.length_map]; omega)) (v_slT (v_var (i := 1) (d := .tup (conf.map Dat.int)) rfl) (o_some (v_add (v_var (i := 3) (d := .int (pl : Int)) rfl) (v_lenT (v_var (i := 6) (d := .tup (rules[b'].1.map Dat.int)) rfl)))) o_none) (by rw [List.length_map, ← Int.natCast_add, cutD_from, cutD_to, List.length_append, List.length_drop, List.length_take, List.length_map, List.length_map]; omega)) fun d hd => ?_) S hQ
        subst hd
        refine .inr ⟨b', pl, _, hr, h4, h5, h6, h7, ?_⟩
        rw [List.length_map, ← Int.natCast_add, cutD_from, cutD_to, List.map_append, List.map_append, List.map_take, List.map_drop]
end
end K09

set_option maxHeartbeats 4000000
namespace K09
open PySem L2 Ly
theorem eqv_rl (r s : List Int × List Int) : PyData.eqv (toPy (rlD r)) (toPy (rlD s)) = decide (r = s) := by
  show PyData.eqv (toPy (.tup [.tup (r.1.map Dat.int), .tup (r.2.map Dat.int)])) (toPy (.tup [.tup (s.1.map Dat.int), .tup (s.2.map Dat.int)])) = _
  have h1 := eqv_ints r.1 s.1
  have h2 := eqv_ints r.2 s.2
  rw [toPy, toPy, toPys, toPys, toPys, toPys, toPys, toPys, PyData.eqv, PyData.eqvAll, PyData.eqvAll, PyData.eqvAll, h1, h2]
  obtain ⟨a, b⟩ := r
  obtain ⟨c, d⟩ := s
  by_cases e : a = c <;> by_cases e2 : b = d <;> simp [e, e2]
theorem eqvs_rl : ∀ a b : List (List Int × List Int), PyData.eqvAll (toPys (a.map rlD)) (toPys (b.map rlD)) = decide (a = b)
  | [], [] => by simp [toPys, PyData.eqvAll]
  | [], _ :: _ => by simp [toPys, PyData.eqvAll]
  | _ :: _, [] => by simp [toPys, PyData.eqvAll]
  | r :: a, s :: b => by
    rw [List.map_cons, List.map_cons, toPys, toPys, PyData.eqvAll, eqv_rl r s, eqvs_rl a b]
    by_cases c : r = s <;> by_cases c2 : a = b <;> simp [c, c2]
theorem eqv_rlT (a b : List (List Int × List Int)) : PyData.eqv (toPy (.tup (a.map rlD))) (toPy (.tup (b.map rlD))) = decide (a = b) := by
  simp only [toPy, PyData.eqv]
  exact eqvs_rl a b
abbrev GoodL (rules : List (List Int × List Int)) : Prop := rules.length ≤ 100 ∧ ∀ r ∈ rules, r.1.length ≤ 100 ∧ r.2.length ≤ 100
theorem pl_rl {n : Nat} {r : List Int × List Int} (h : r.1.length ≤ 100 ∧ r.2.length ≤ 100) : Pl (n + 3) (rlD r) := by
  show Pl (n + 3) (.tup [_, _])
  rw [Pl]
  refine ⟨by simp, ?_⟩
  rw [Pls, Pls, Pls]
  exact ⟨Pl.ints (by omega), Pl.ints (by omega), trivial⟩
theorem pls_rl {n : Nat} : ∀ {rs : List (List Int × List Int)}, (∀ r ∈ rs, r.1.length ≤ 100 ∧ r.2.length ≤ 100) → Pls (n + 3) (rs.map rlD)
  | [], _ => by simp [Pls]
  | r :: rs, h => by
    rw [List.map_cons, Pls]
    exact ⟨pl_rl (h r List.mem_cons_self), pls_rl fun x hx => h x (List.mem_cons_of_mem _ hx)⟩
theorem pl_rls {n : Nat} {rs : List (List Int × List Int)} (h : GoodL rs) : Pl (n + 4) (.tup (rs.map rlD)) := by
  rw [Pl]
  exact ⟨by rw [List.length_map]; have := h.1; omega, pls_rl h.2⟩
def A_seq (CS CL : Addr) : Sig := fun ds P => ∃ r1 r2 : List (List Int × List Int), GoodL r1 ∧ GoodL r2 ∧ ds = [.obj CS (sF CL r1), .obj CS (sF CL r2)] ∧ P = (· = .bl (decide (r1 = r2)))
section
variable {P : Program} {w : World} {K : PySem.W.Frag} {mg : Str → Option Value} {base : Heap} {C_Strings C_LeftSides C_InvalidMachine C_BadArgument : Addr}
theorem ok_seq (M : ∃ f fd, ClsQ K C_Strings f ∧ Fun K "__eq__" "Strings.__eq__" s_Strings_eq f fd) (T : Txt K w mg C_Strings C_LeftSides C_InvalidMachine C_BadArgument) : EqS P w K mg base 1 C_Strings (spOf Wd0 K (A_seq C_Strings C_LeftSides)) := by
  have M2 := M
  obtain ⟨f0, _, q, _⟩ := M2
  refine eqs_of M (fun _ _ _ _ _ _ us hl => match us, hl with | [_, _], _ => rfl) sc_Strings_eq (spOf_len (n := 2) fun _ _ ⟨_, _, _, _, e, _⟩ => by rw [e]; rfl) fun f cdv A outer s H0 vs Q E hr h => ⟨_, (pss_one (ps_ret (pe_and (pe_callB (r := rIsi K) call_isi (by rfl) T.n_isinstance (by decide +kernel) (pa_cons (pv 1) (pa_cons (pe_glob (v := .ref C_Strings) rfl T.g_Strings rfl) pa_nil))) (pe_one (pe_cmpR (op_eqD hr.units) (pe_fld (pv 0) rfl) (pe_fld (pv 1) rfl) (nomark _)))))), ?_⟩
  obtain ⟨G0, ds, P, k, r, ⟨r1, r2, hp, hq, rfl, rfl⟩, qq⟩ := h
  have S := S4.start (N := N_Strings_eq) k r
  refine g_ret (P := (· = .bl (decide (r1 = r2)))) (EvX.to (v_andx (v_isOwn q (v_var rfl)) fun _ => v_eqD (v_fld (v_var rfl) T.cls_Strings T.na_Strings_rules rfl) (v_fld (v_var rfl) T.cls_Strings T.na_Strings_rules rfl) (pl_rls (n := 0) hp) (pl_rls (n := 0) hq) (by omega)) ?_) S qq
  rw [eqv_rlT]
  rfl
end
end K09

set_option maxHeartbeats 4000000
namespace K09
open PySem L2 Ly
section
variable {P : Program} {w : World} {K : PySem.W.Frag} {mg : Str → Option Value} {base : Heap} {C_Strings C_LeftSides C_InvalidMachine C_BadArgument : Addr}
theorem like_scal {K : PySem.W.Frag} {Γ : List (Option Dat)} {i : Nat} {d : Dat} {T : String} {c : Bool} (h : Γ[i]? = some (some d)) (ht : typed d = true) (hk : kitB (tyN d) T = some c) : EvBX Wd0 K (tB (tCB (rIsi K) (tCons (tVar i) (tCons (tC (.ty T)) tNil)))) Γ c := b_Bx (v_is h ht hk)
theorem ok_like0 (D : Df K mg "_law_like" s_law_like) (T : Txt K w mg C_Strings C_LeftSides C_InvalidMachine C_BadArgument) : C8.Cal P w K mg base 1 "_law_like" (spOf Wd0 K (A_like 0)) [] := by
  refine cal_of D (fun _ _ _ _ _ _ us hl => match us, hl with | [_, _], _ => rfl) sc_law_like (spOf_len (n := 2) fun _ _ ⟨_, _, e, _⟩ => by rw [e]; rfl) fun f cdv A outer s H0 vs Q E hr h => ⟨_, (pss_cons (ps_if (pt_cmp (pc_isN (pv 1))) (pss_one (ps_ret (pe_cmp (pc_isN (pv 0))))) pss_nil)
      (pss_cons (ps_if (pt_val (pe_callB (r := rIsi K) call_isi (by rfl) T.n_isinstance (by decide +kernel) (pa_cons (pv 1) (pa_cons (pe_bltn (v := .ty "bool") rfl T.n_bool (by decide +kernel) rfl) pa_nil)))) (pss_one (ps_ret (pe_and (pe_callB (r := rIsi K) call_isi (by rfl) T.n_isinstance (by decide +kernel) (pa_cons (pv 0) (pa_cons (pe_bltn (v := .ty "bool") rfl T.n_bool (by decide +kernel) rfl) pa_nil))) (pe_one (pe_cmpR op_eq (pv 0) (pv 1) (nomark _)))))) pss_nil)
      (pss_cons (ps_if (pt_val (pe_callB (r := rIsi K) call_isi (by rfl) T.n_isinstance (by decide +kernel) (pa_cons (pv 1) (pa_cons (pe_bltn (v := .ty "str") rfl T.n_str (by decide +kernel) rfl) pa_nil)))) (pss_one (ps_ret (pe_and (pe_callB (r := rIsi K) call_isi (by rfl) T.n_isinstance (by decide +kernel) (pa_cons (pv 0) (pa_cons (pe_bltn (v := .ty "str") rfl T.n_str (by decide +kernel) rfl) pa_nil))) (pe_one (pe_cmpR op_eq (pv 0) (pv 1) (nomark _)))))) pss_nil)
      (pss_cons (ps_if (pt_val (pe_callB (r := rIsi K) call_isi (by rfl) T.n_isinstance (by decide +kernel) (pa_cons (pv 1) (pa_cons (pe_bltn (v := .ty "int") rfl T.n_int (by decide +kernel) rfl) pa_nil)))) (pss_one (ps_ret (pe_and (pe_callB (r := rIsi K) call_isi (by rfl) T.n_isinstance (by decide +kernel) (pa_cons (pv 0) (pa_cons (pe_bltn (v := .ty "int") rfl T.n_int (by decide +kernel) rfl) pa_nil))) (pe_and (pe_not (pe_callB (r := rIsi K) call_isi (by rfl) T.n_isinstance (by decide +kernel) (pa_cons (pv 0) (pa_cons (pe_bltn (v := .ty "bool") rfl T.n_bool (by decide +kernel) rfl) pa_nil)))) (pe_one (pe_cmpR op_eq (pv 0) (pv 1) (nomark _))))))) pss_nil)
      (pss_cons (ps_if (PW.pt (pw_or (pt_cmpR op_ne (pe_callB (r := rIsi K) call_isi (by rfl) T.n_isinstance (by decide +kernel) (pa_cons (pv 1) (pa_cons (pe_bltn (v := .ty "list") rfl T.n_list (by decide +kernel) rfl) pa_nil))) (pe_callB (r := rIsi K) call_isi (by rfl) T.n_isinstance (by decide +kernel) (pa_cons (pv 0) (pa_cons (pe_bltn (v := .ty "list") rfl T.n_list (by decide +kernel) rfl) pa_nil))) (nomark _)) (pw_or1 (pt_cmpR op_ne (pe_callB (r := rIsi K) call_isi (by rfl) T.n_isinstance (by decide +kernel) (pa_cons (pv 1) (pa_cons (pe_bltn (v := .ty "tuple") rfl T.n_tuple (by decide +kernel) rfl) pa_nil))) (pe_callB (r := rIsi K) call_isi (by rfl) T.n_isinstance (by decide +kernel) (pa_cons (pv 0) (pa_cons (pe_bltn (v := .ty "tuple") rfl T.n_tuple (by decide +kernel) rfl) pa_nil))) (nomark _))))) (pss_one (ps_ret pe_bl)) pss_nil)
      (pss_cons (ps_if (pt_cmpR op_ne (pe_callB (r := Ly.rLen K) call_len_seq (by rfl) T.n_len PySem.boot_len (pa_cons (pv 0) pa_nil)) (pe_callB (r := Ly.rLen K) call_len_seq (by rfl) T.n_len PySem.boot_len (pa_cons (pv 1) pa_nil)) (nomark _)) (pss_one (ps_ret pe_bl)) pss_nil)
      pss_never)))))), ?_⟩
  obtain ⟨G0, ds, P, k, r, ⟨d, pl, rfl, rfl⟩, q⟩ := h
  have S := S4.start (N := N_law_like) k r
  cases d with
  | non => exact q_when (b_Bx (v_isNx (v_var rfl))) S (fun _ G H S => g_ret (P := (· = .bl true)) (EvX.to (v_isNx (v_var (d := .non) rfl)) rfl) S q) (fun e => nomatch e)
  | bl b =>
    refine q_when (b_Bx (v_isNx (v_var rfl))) S (fun e => nomatch e) fun _ G H S => ?_
    refine q_when (like_scal (d := (.bl b)) (c := true) rfl rfl kb_bool_bool) S (fun _ G H S => ?_) (fun e => nomatch e)
    exact g_ret (EvX.to (v_andx (v_is (d := (.bl b)) (c := true) rfl rfl kb_bool_bool) fun _ => v_eqB (v_var rfl) (v_var rfl)) (by simp)) S q
  | str x =>
    refine q_when (b_Bx (v_isNx (v_var rfl))) S (fun e => nomatch e) fun _ G H S => ?_
    refine q_when (like_scal (d := (.str x)) (c := false) rfl rfl kb_str_bool) S (fun e => nomatch e) fun _ G H S => ?_
    refine q_when (like_scal (d := (.str x)) (c := true) rfl rfl kb_str_str) S (fun _ G H S => ?_) (fun e => nomatch e)
    exact g_ret (EvX.to (v_andx (v_is (d := (.str x)) (c := true) rfl rfl kb_str_str) fun _ => v_eqS (v_var rfl) (v_var rfl)) (by simp)) S q
  | int i =>
    refine q_when (b_Bx (v_isNx (v_var rfl))) S (fun e => nomatch e) fun _ G H S => ?_
    refine q_when (like_scal (d := (.int i)) (c := false) rfl rfl kb_int_bool) S (fun e => nomatch e) fun _ G H S => ?_
    refine q_when (like_scal (d := (.int i)) (c := false) rfl rfl kb_int_str) S (fun e => nomatch e) fun _ G H S => ?_
    refine q_when (like_scal (d := (.int i)) (c := true) rfl rfl kb_int_int) S (fun _ G H S => ?_) (fun e => nomatch e)
    exact g_ret (EvX.to (v_andx (v_is (d := (.int i)) (c := true) rfl rfl kb_int_int) fun _ => v_andx (v_notx (v_is (d := (.int i)) (c := false) rfl rfl kb_int_bool)) fun _ => v_eqI (v_var rfl) (v_var rfl)) (by simp)) S q
  | _ => simp [Pl] at pl
theorem ok_likeS {n : Nat} (D : Df K mg "_law_like" s_law_like) (T : Txt K w mg C_Strings C_LeftSides C_InvalidMachine C_BadArgument) (c_law_like : C8.Cal P w K mg base (n + 1) "_law_like" (spOf Wd0 K (A_like n)) []) : C8.Cal P w K mg base (n + 2) "_law_like" (spOf Wd0 K (A_like (n + 1))) [] := by
  refine cal_of D (fun _ _ _ _ _ _ us hl => match us, hl with | [_, _], _ => rfl) sc_law_like (spOf_len (n := 2) fun _ _ ⟨_, _, e, _⟩ => by rw [e]; rfl) fun f cdv A outer s H0 vs Q E hr h => ⟨_, (pss_cons (ps_if (pt_cmp (pc_isN (pv 1))) (pss_one (ps_ret (pe_cmp (pc_isN (pv 0))))) pss_nil)
      (pss_cons (ps_if (pt_val (pe_callB (r := rIsi K) call_isi (by rfl) T.n_isinstance (by decide +kernel) (pa_cons (pv 1) (pa_cons (pe_bltn (v := .ty "bool") rfl T.n_bool (by decide +kernel) rfl) pa_nil)))) (pss_one (ps_ret (pe_and (pe_callB (r := rIsi K) call_isi (by rfl) T.n_isinstance (by decide +kernel) (pa_cons (pv 0) (pa_cons (pe_bltn (v := .ty "bool") rfl T.n_bool (by decide +kernel) rfl) pa_nil))) (pe_one (pe_cmpR op_eq (pv 0) (pv 1) (nomark _)))))) pss_nil)
      (pss_cons (ps_if (pt_val (pe_callB (r := rIsi K) call_isi (by rfl) T.n_isinstance (by decide +kernel) (pa_cons (pv 1) (pa_cons (pe_bltn (v := .ty "str") rfl T.n_str (by decide +kernel) rfl) pa_nil)))) (pss_one (ps_ret (pe_and (pe_callB (r := rIsi K) call_isi (by rfl) T.n_isinstance (by decide +kernel) (pa_cons (pv 0) (pa_cons (pe_bltn (v := .ty "str") rfl T.n_str (by decide +kernel) rfl) pa_nil))) (pe_one (pe_cmpR op_eq (pv 0) (pv 1) (nomark _)))))) pss_nil)
      (pss_cons (ps_if (pt_val (pe_callB (r := rIsi K) call_isi (by rfl) T.n_isinstance (by decide +kernel) (pa_cons (pv 1) (pa_cons (pe_bltn (v := .ty "int") rfl T.n_int (by decide +kernel) rfl) pa_nil)))) (pss_one (ps_ret (pe_and (pe_callB (r := rIsi K) call_isi (by rfl) T.n_isinstance (by decide +kernel) (pa_cons (pv 0) (pa_cons (pe_bltn (v := .ty "int") rfl T.n_int (by decide +kernel) rfl) pa_nil))) (pe_and (pe_not (pe_callB (r := rIsi K) call_isi (by rfl) T.n_isinstance (by decide +kernel) (pa_cons (pv 0) (pa_cons (pe_bltn (v := .ty "bool") rfl T.n_bool (by decide +kernel) rfl) pa_nil)))) (pe_one (pe_cmpR op_eq (pv 0) (pv 1) (nomark _))))))) pss_nil)
      (pss_cons (ps_if (PW.pt (pw_or (pt_cmpR op_ne (pe_callB (r := rIsi K) call_isi (by rfl) T.n_isinstance (by decide +kernel) (pa_cons (pv 1) (pa_cons (pe_bltn (v := .ty "list") rfl T.n_list (by decide +kernel) rfl) pa_nil))) (pe_callB (r := rIsi K) call_isi (by rfl) T.n_isinstance (by decide +kernel) (pa_cons (pv 0) (pa_cons (pe_bltn (v := .ty "list") rfl T.n_list (by decide +kernel) rfl) pa_nil))) (nomark _)) (pw_or1 (pt_cmpR op_ne (pe_callB (r := rIsi K) call_isi (by rfl) T.n_isinstance (by decide +kernel) (pa_cons (pv 1) (pa_cons (pe_bltn (v := .ty "tuple") rfl T.n_tuple (by decide +kernel) rfl) pa_nil))) (pe_callB (r := rIsi K) call_isi (by rfl) T.n_isinstance (by decide +kernel) (pa_cons (pv 0) (pa_cons (pe_bltn (v := .ty "tuple") rfl T.n_tuple (by decide +kernel) rfl) pa_nil))) (nomark _))))) (pss_one (ps_ret pe_bl)) pss_nil)
      (pss_cons (ps_if (pt_cmpR op_ne (pe_callB (r := Ly.rLen K) call_len_seq (by rfl) T.n_len PySem.boot_len (pa_cons (pv 0) pa_nil)) (pe_callB (r := Ly.rLen K) call_len_seq (by rfl) T.n_len PySem.boot_len (pa_cons (pv 1) pa_nil)) (nomark _)) (pss_one (ps_ret pe_bl)) pss_nil)
      (pss_one (ps_ret (pe_callB (r := rAll K) (cr_all rfl) (by rfl) T.n_all (by decide +kernel) (pa_cons (pe_lc (own := [("k", 2)]) (g := gName 2) (tt := tYes) rfl sc_law_like.nd (pi_range1 rfl T.n_range (pa_cons (pe_callB (r := Ly.rLen K) call_len_seq (by rfl) T.n_len PySem.boot_len (pa_cons (pv 1) pa_nil)) pa_nil)) (blkOk_by (N := N_law_like) (sc := defScope s_law_like) (by decide +kernel)) (fun _ _ _ _ _ => pg_name (i := 2) sc_law_like.nd rfl (Or.inl rfl)) (fun _ _ _ _ _ => pts_nil) (fun _ _ _ _ _ => (C8.pe_c c_law_like hr (Nat.le_refl _) rfl (pa_cons (pe_ix (r := rIx K) ix_seq (pv 0) (pv 2) (fun _ _ => rfl)) (pa_cons (pe_ix (r := rIx K) ix_seq (pv 1) (pv 2) (fun _ _ => rfl)) pa_nil))))) pa_nil)))))))))), ?_⟩
  obtain ⟨G0, ds, P, k, r, ⟨d, pl, rfl, rfl⟩, q⟩ := h
  have S := S4.start (N := N_law_like) k r
  cases d with
  | non => exact q_when (b_Bx (v_isNx (v_var rfl))) S (fun _ G H S => g_ret (P := (· = .bl true)) (EvX.to (v_isNx (v_var (d := .non) rfl)) rfl) S q) (fun e => nomatch e)
  | bl b =>
    refine q_when (b_Bx (v_isNx (v_var rfl))) S (fun e => nomatch e) fun _ G H S => ?_
    refine q_when (like_scal (d := (.bl b)) (c := true) rfl rfl kb_bool_bool) S (fun _ G H S => ?_) (fun e => nomatch e)
    exact g_ret (EvX.to (v_andx (v_is (d := (.bl b)) (c := true) rfl rfl kb_bool_bool) fun _ => v_eqB (v_var rfl) (v_var rfl)) (by simp)) S q
  | str x =>
    refine q_when (b_Bx (v_isNx (v_var rfl))) S (fun e => nomatch e) fun _ G H S => ?_
    refine q_when (like_scal (d := (.str x)) (c := false) rfl rfl kb_str_bool) S (fun e => nomatch e) fun _ G H S => ?_
    refine q_when (like_scal (d := (.str x)) (c := true) rfl rfl kb_str_str) S (fun _ G H S => ?_) (fun e => nomatch e)
    exact g_ret (EvX.to (v_andx (v_is (d := (.str x)) (c := true) rfl rfl kb_str_str) fun _ => v_eqS (v_var rfl) (v_var rfl)) (by simp)) S q
  | int i =>
    refine q_when (b_Bx (v_isNx (v_var rfl))) S (fun e => nomatch e) fun _ G H S => ?_
    refine q_when (like_scal (d := (.int i)) (c := false) rfl rfl kb_int_bool) S (fun e => nomatch e) fun _ G H S => ?_
    refine q_when (like_scal (d := (.int i)) (c := false) rfl rfl kb_int_str) S (fun e => nomatch e) fun _ G H S => ?_
    refine q_when (like_scal (d := (.int i)) (c := true) rfl rfl kb_int_int) S (fun _ G H S => ?_) (fun e => nomatch e)
    exact g_ret (EvX.to (v_andx (v_is (d := (.int i)) (c := true) rfl rfl kb_int_int) fun _ => v_andx (v_notx (v_is (d := (.int i)) (c := false) rfl rfl kb_int_bool)) fun _ => v_eqI (v_var rfl) (v_var rfl)) (by simp)) S q
  | adr a => cases n <;> simp [Pl] at pl
  | obj a b => cases n <;> simp [Pl] at pl
  | dct a => cases n <;> simp [Pl] at pl
  | dcs a => cases n <;> simp [Pl] at pl
  | tup es =>
    rw [Pl] at pl
    refine q_when (b_Bx (v_isNx (v_var rfl))) S (fun e => nomatch e) fun _ G H S => ?_
    refine q_when (like_scal (d := (.tup es)) (c := false) rfl rfl kb_tuple_bool) S (fun e => nomatch e) fun _ G H S => ?_
    refine q_when (like_scal (d := (.tup es)) (c := false) rfl rfl kb_tuple_str) S (fun e => nomatch e) fun _ G H S => ?_
    refine q_when (like_scal (d := (.tup es)) (c := false) rfl rfl kb_tuple_int) S (fun e => nomatch e) fun _ G H S => ?_
    refine q_when (EvBX.to (b_orx (b_testx (v_neB (v_is (d := (.tup es)) (c := false) rfl rfl kb_tuple_list) (v_is (d := (.tup es)) (c := false) rfl rfl kb_tuple_list))) fun _ => b_testx (v_neB (v_is (d := (.tup es)) (c := true) rfl rfl kb_tuple_tuple) (v_is (d := (.tup es)) (c := true) rfl rfl kb_tuple_tuple))) (b := false) (by simp)) S (fun e => nomatch e) fun _ G H S => ?_
    refine q_when (EvBX.to (b_testx (v_neI (v_lenT (v_var rfl)) (v_lenT (v_var rfl)))) (b := false) (by simp)) S (fun e => nomatch e) fun _ G H S => ?_
    refine g_ret (P := (· = .bl true)) ?_ S q
    refine EvX.to (v_all (bs := List.replicate es.length true) (EvN.evx (R := (· = (List.replicate es.length true).map Dat.bl)) (n_lcR (fun _ i ds => ds = List.replicate i (.bl true)) (EvA.imp (a_consx (v_lenT (v_var rfl)) a_nil) fun ds e => ⟨_, e, ⟨by omega, by have := pl.1; omega⟩, rfl, fun i hi => ?_, fun ds e => by rw [e, List.map_replicate, Int.toNat_natCast]⟩)) fun ds e => e)) (by simp)
    have hlt : i < es.length := by omega
    have hx : es[i]? = some es[i] := List.getElem?_eq_getElem hlt
    refine tn_each (fun ds e => by rw [e, List.length_replicate]; have := pl.1; omega) fun ds e => ?_
    refine Ev.imp (v_call0x (P := (· = .bl true)) (a_consx (v_ixDT (v_var rfl) (v_var rfl) rfl hx) (a_consx (v_ixDT (v_var rfl) (v_var rfl) rfl hx) a_nil)) ⟨es[i], pl.2.get hx, rfl, rfl⟩) fun d ed => ?_
    rw [e, ed, List.replicate_succ']
  | lst es =>
    rw [Pl] at pl
    refine q_when (b_Bx (v_isNx (v_var rfl))) S (fun e => nomatch e) fun _ G H S => ?_
    refine q_when (like_scal (d := (.lst es)) (c := false) rfl rfl kb_list_bool) S (fun e => nomatch e) fun _ G H S => ?_
    refine q_when (like_scal (d := (.lst es)) (c := false) rfl rfl kb_list_str) S (fun e => nomatch e) fun _ G H S => ?_
    refine q_when (like_scal (d := (.lst es)) (c := false) rfl rfl kb_list_int) S (fun e => nomatch e) fun _ G H S => ?_
    refine q_when (EvBX.to (b_orx (b_testx (v_neB (v_is (d := (.lst es)) (c := true) rfl rfl kb_list_list) (v_is (d := (.lst es)) (c := true) rfl rfl kb_list_list))) fun _ => b_testx (v_neB (v_is (d := (.lst es)) (c := false) rfl rfl kb_list_tuple) (v_is (d := (.lst es)) (c := false) rfl rfl kb_list_tuple))) (b := false) (by simp)) S (fun e => nomatch e) fun _ G H S => ?_
    refine q_when (EvBX.to (b_testx (v_neI (v_lenL (v_var rfl)) (v_lenL (v_var rfl)))) (b := false) (by simp)) S (fun e => nomatch e) fun _ G H S => ?_
    refine g_ret (P := (· = .bl true)) ?_ S q
    refine EvX.to (v_all (bs := List.replicate es.length true) (EvN.evx (R := (· = (List.replicate es.length true).map Dat.bl)) (n_lcR (fun _ i ds => ds = List.replicate i (.bl true)) (EvA.imp (a_consx (v_lenL (v_var rfl)) a_nil) fun ds e => ⟨_, e, ⟨by omega, by have := pl.1; omega⟩, rfl, fun i hi => ?_, fun ds e => by rw [e, List.map_replicate, Int.toNat_natCast]⟩)) fun ds e => e)) (by simp)
    have hlt : i < es.length := by omega
    have hx : es[i]? = some es[i] := List.getElem?_eq_getElem hlt
    refine tn_each (fun ds e => by rw [e, List.length_replicate]; have := pl.1; omega) fun ds e => ?_
    refine Ev.imp (v_call0x (P := (· = .bl true)) (a_consx (v_ixDL (v_var rfl) (v_var rfl) rfl hx) (a_consx (v_ixDL (v_var rfl) (v_var rfl) rfl hx) a_nil)) ⟨es[i], pl.2.get hx, rfl, rfl⟩) fun d ed => ?_
    rw [e, ed, List.replicate_succ']
theorem ok_like (D : Df K mg "_law_like" s_law_like) (T : Txt K w mg C_Strings C_LeftSides C_InvalidMachine C_BadArgument) : ∀ n, C8.Cal P w K mg base (n + 1) "_law_like" (spOf Wd0 K (A_like n)) []
  | 0 => ok_like0 D T
  | n + 1 => ok_likeS D T (ok_like D T n)

theorem ok_pool (D : Df K mg "_law_pool" s_law_pool) (T : Txt K w mg C_Strings C_LeftSides C_InvalidMachine C_BadArgument) : C8.Cal P w K mg base 1 "_law_pool" (spPool K) [] := by
  refine cal_of D (fun _ _ _ _ _ _ us hl => match us, hl with | [_], _ => rfl) sc_law_pool (fun vs H Q E ⟨_, _, _, r, _⟩ => r.length) fun f cdv A outer s H0 vs Q E hr h => ⟨_, (pss_cons (ps_set (i := 1) sc_law_pool.nd rfl (by first | exact Or.inl rfl | exact Or.inr rfl) pe_int)
      (pss_cons (ps_for PassesOwn.never rfl (pi_list (pe_slice (r := rSlL K) sl_list (pv 0) po_none (po_some pe_int))) (pg_name (i := 2) sc_law_pool.nd rfl (by first | exact Or.inl rfl | exact Or.inr rfl))
        (pss_one (ps_set (i := 1) sc_law_pool.nd rfl (by first | exact Or.inl rfl | exact Or.inr rfl) (pe_op op_mod (pe_callTy call_int1 (by rfl) T.n_int (by decide +kernel) (pa_cons (pe_op op_add (pe_op op_mul (pv 1) pe_int) (pv 2)) pa_nil)) pe_int))))
      (pss_one (ps_ret (pe_lst (pa_cons (pe_callTy call_list_of (by rfl) T.n_list (by decide +kernel) (pa_cons (pv 0) pa_nil)) (pa_cons pe_int (pa_cons pe_int (pa_cons pe_int (pa_cons (pv 1) pa_nil)))))))))), ?_⟩
  obtain ⟨G0, ns, k, r, hl, q⟩ := h
  have S := S4.start (N := N_law_pool) k r
  refine q_setx v_int S fun σ G H S => ?_
  refine q_forL (n_slL (v_var rfl) o_none (o_some v_int)) S (fun i Γ O => O = [] ∧ ∃ z s, Γ = [some (.lst (dI ns)), some (.int s), z]) ⟨rfl, none, 7, rfl⟩ ?_ ?_
  · rintro G1 i d Γ O σ G H hd ⟨rfl, z, s, rfl⟩ S
    obtain ⟨x, rfl⟩ : ∃ x, d = .int x := by
      have hm : d ∈ cutD (dI ns) none (some 63) := List.mem_of_getElem? hd
      have hm2 : d ∈ dI ns := List.mem_of_mem_drop (List.mem_of_mem_take hm)
      obtain ⟨x, _, e⟩ := List.mem_map.mp hm2
      exact ⟨x, e.symm⟩
    refine g_setx (v_mod (v_int1 (v_add (v_mul (v_var rfl) v_int (.inr ⟨by omega, by omega⟩)) (v_var rfl))) v_int (by omega)) S fun σ G H S => ⟨_, _, _, ⟨rfl, some (.int x), _, rfl⟩, S⟩
  · rintro Γ O σ G H ⟨rfl, z, s, rfl⟩ S
    refine n_listL (K := K) (ta := tVar 0) (v_var (i := 0) (d := .lst (dI ns)) rfl) σ G H S.env S.ok (fun x H1 => (tCons (tC (.int 0)) (tCons (tC (.int 0)) (tCons (tC (.int 0)) (tCons (tVar 1) tNil)))) σ H1 fun xs H2 => (x :: xs).length ≤ sizeLine ∧ ∀ p, H2 p = none → Q (.ref p) (upd H2 p (.lst (x :: xs)))) fun c xs ds G2 H2 st h0 g2 h2 r e => ?_
    subst e
    have S2 := S.step st
    have ex : xs = ns.map V.int := r.ints
    subst ex
    refine v_var (K := K) (d := .int s) (i := 1) rfl σ G2 H2 S2.env S2.ok (fun x H2 => [V.ref c, .int 0, .int 0, .int 0, x].length ≤ sizeLine ∧ ∀ p, H2 p = none → Q (.ref p) (upd H2 p (.lst [V.ref c, .int 0, .int 0, .int 0, x]))) fun v d G3 H3 st3 e r3 => ?_
    subst e
    cases r3
    have S3 := S2.step st3
    have h3 := st3.ex0 _ _ h2
    refine ⟨by show 5 ≤ sizeLine; decide, fun p hp => ?_⟩
    have npc : p ≠ c := fun e => by
      rw [e, h3] at hp
      cases hp
    refine q p c _ (fun a o ha => ?_) ((back S3.stp hp).1) ((back S.stp h0).1) ⟨npc, by rw [upd_ne (Ne.symm npc)]; exact h3, 0, 0, 0, s, by omega, upd_same⟩
    have h4 := S3.stp.ex0 a o ha
    rw [upd_ne (ne_of_none h4 hp)]
    exact h4
theorem ok_spread (D : Df K mg "_law_spread" s_law_spread) (T : Txt K w mg C_Strings C_LeftSides C_InvalidMachine C_BadArgument) : C8.Cal P w K mg base 1 "_law_spread" (spOf Wd0 K A_spread) [] := by
  refine cal_of D (fun _ _ _ _ _ _ us hl => match us, hl with | [_], _ => rfl) sc_law_spread (spOf_len (n := 1) fun _ _ ⟨_, e, _⟩ => by rw [e]; rfl) fun f cdv A outer s H0 vs Q E hr h => ⟨_, (pss_cons (ps_set (i := 1) sc_law_spread.nd rfl (by first | exact Or.inl rfl | exact Or.inr rfl) (pe_op op_mod (pe_callTy call_int1 (by rfl) T.n_int (by decide +kernel) (pa_cons (pv 0) pa_nil)) pe_int))
      (pss_cons (ps_set (i := 2) sc_law_spread.nd rfl (by first | exact Or.inl rfl | exact Or.inr rfl) pe_int)
      (pss_cons (ps_for PassesOwn.never rfl (pi_range1 rfl T.n_range (pa_cons pe_int pa_nil)) (pg_name (i := 3) sc_law_spread.nd rfl (by first | exact Or.inl rfl | exact Or.inr rfl))
        (pss_cons (ps_set (i := 1) sc_law_spread.nd rfl (by first | exact Or.inl rfl | exact Or.inr rfl) (pe_op op_mod (pe_callTy call_int1 (by rfl) T.n_int (by decide +kernel) (pa_cons (pe_op op_add (pe_op op_add (pe_op op_mul (pv 1) pe_int) pe_int) (pv 3)) pa_nil)) pe_int))
      (pss_one (ps_set (i := 2) sc_law_spread.nd rfl (by first | exact Or.inl rfl | exact Or.inr rfl) (pe_op op_add (pe_op op_mul (pv 2) pe_int) (pv 1))))))
      (pss_one (ps_ret (pv 2)))))), ?_⟩
  obtain ⟨G0, ds, P, k, r, ⟨x, rfl, rfl⟩, q⟩ := h
  have S := S4.start (N := N_law_spread) k r
  refine q_setx (v_mod (v_int1 (v_var rfl)) v_int (by omega)) S fun σ G H S => ?_
  refine q_setx v_int S fun σ G H S => ?_
  refine q_for1 (a_consx v_int a_nil) (by omega) S (fun i Γ O => O = [] ∧ ∃ m t z, Γ = [some (.int x), some (.int m), some (.int t), z]) ⟨rfl, _, _, none, rfl⟩ ?_ ?_ (by omega)
  · rintro i Γ O σ G H hi ⟨rfl, m, t, z, rfl⟩ S
    refine q_setx (v_mod (v_int1 (v_add (v_add (v_mul (v_var rfl) v_int (.inr ⟨by omega, by omega⟩)) v_int) (v_var rfl))) v_int (by omega)) S fun σ G H S => ?_
    refine g_setx (v_add (v_mul (v_var rfl) v_int (.inr ⟨by omega, by omega⟩)) (v_var rfl)) S fun σ G H S => ⟨_, _, _, ⟨rfl, _, _, some (.int (i : Int)), rfl⟩, S⟩
  · rintro Γ O σ G H ⟨rfl, m, t, z, rfl⟩ S
    exact g_ret (EvX.any (v_var rfl) ⟨t, rfl⟩) S q
theorem ok_draw (D : Df K mg "_law_draw" s_law_draw) (T : Txt K w mg C_Strings C_LeftSides C_InvalidMachine C_BadArgument) (c_law_spread : C8.Cal P w K mg base 1 "_law_spread" (spOf Wd0 K A_spread) []) : C8.Cal P w K mg base 2 "_law_draw" (spDraw K) [] := by
  refine cal_of D (fun _ _ _ _ _ _ us hl => match us, hl with | [_, _], _ => rfl) sc_law_draw (fun vs H Q E ⟨_, _, _, _, _, _, _, r, ⟨_, _, _, e, _⟩, _⟩ => by rw [r.length, e]; rfl) fun f cdv A outer s H0 vs Q E hr h => ⟨_, (Evl.pss_cut (ps_if (PW.pt (pw_and (pt_cmpR op_le (pe_ix (r := rIxL K) ix_list (pv 0) pe_int (fun _ _ => rfl)) pe_int (nomark _)) (pw_and1 (pt_cmpR op_lt (pe_ix (r := rIxL K) ix_list (pv 0) pe_int (fun _ _ => rfl)) (pe_callB (r := Ly.rLen K) call_len_seq (by rfl) T.n_len PySem.boot_len (pa_cons (pe_ix (r := rIxL K) ix_list (pv 0) pe_int (fun _ _ => rfl)) pa_nil)) (nomark _))))) (pss_cons (ps_set (i := 2) sc_law_draw.nd rfl (by first | exact Or.inl rfl | exact Or.inr rfl) (pe_ix (r := rIxL K) ix_list (pe_ix (r := rIxL K) ix_list (pv 0) pe_int (fun _ _ => rfl)) (pe_ix (r := rIxL K) ix_list (pv 0) pe_int (fun _ _ => rfl)) (fun _ _ => rfl)))
      (pss_cons (ps_asg (pe_op op_add (pe_ix (r := rIxL K) ix_list (pv 0) pe_int (fun _ _ => rfl)) pe_int) (pg_sub (pv 0) pe_int set_list))
      (pss_cons (ps_asg (pv 2) (pg_sub (pv 0) pe_int set_list))
      (pss_one (ps_if (pt_cmpR op_lt (pv 2) pe_int (nomark _)) (pss_one (ps_asg (C8.pe_c c_law_spread hr (by decide) rfl (pa_cons (pv 2) pa_nil)) (pg_sub (pv 0) pe_int set_list))) pss_nil))))) pss_nil)
      (pss_cons (ps_asg (pe_op op_add (pe_ix (r := rIxL K) ix_list (pv 0) pe_int (fun _ _ => rfl)) pe_int) (pg_sub (pv 0) pe_int set_list))
      (pss_cons (ps_if (pt_cmpR op_le (pe_ix (r := rIxL K) ix_list (pv 0) pe_int (fun _ _ => rfl)) pe_int (nomark _)) (pss_cons (ps_set (i := 3) sc_law_draw.nd rfl (by first | exact Or.inl rfl | exact Or.inr rfl) (pe_op op_mod (pe_callTy call_int1 (by rfl) T.n_int (by decide +kernel) (pa_cons (pe_op op_add (pe_op op_add (pe_op op_mul (pe_ix (r := rIxL K) ix_list (pv 0) pe_int (fun _ _ => rfl)) pe_int) (pe_op op_mul (pe_ix (r := rIxL K) ix_list (pv 0) pe_int (fun _ _ => rfl)) pe_int)) pe_int) pa_nil)) pe_int))
      (pss_cons (ps_set (i := 3) sc_law_draw.nd rfl (by first | exact Or.inl rfl | exact Or.inr rfl) (pe_op op_mod (pe_callTy call_int1 (by rfl) T.n_int (by decide +kernel) (pa_cons (pe_op op_add (pe_op op_mul (pv 3) pe_int) (pe_ix (r := rIxL K) ix_list (pv 0) pe_int (fun _ _ => rfl))) pa_nil)) pe_int))
      (pss_one (ps_ret (pe_op op_mod (pe_op op_fdiv (pv 3) pe_int) (pv 1)))))) pss_nil)
      (pss_cons (ps_set (i := 4) sc_law_draw.nd rfl (by first | exact Or.inl rfl | exact Or.inr rfl) (pe_op op_mod (pe_callTy call_int1 (by rfl) T.n_int (by decide +kernel) (pa_cons (pe_ix (r := rIxL K) ix_list (pv 0) pe_int (fun _ _ => rfl)) pa_nil)) (pv 1)))
      (pss_cons (ps_asg (pe_op op_fdiv (pe_ix (r := rIxL K) ix_list (pv 0) pe_int (fun _ _ => rfl)) (pv 1)) (pg_sub (pv 0) pe_int set_list))
      (pss_one (ps_ret (pv 4)))))))), ?_⟩
  obtain ⟨p, c, ns, G0, ds, P, k, r, ⟨many, hm0, hm1, rfl, rfl⟩, q⟩ := h
  obtain ⟨i, z, kk, sl, hi0, S⟩ := q_of_p (S4.start (N := N_law_draw) k r)
  refine q_cut (fun σ H => ∃ i z kk sl G x, 0 ≤ i ∧ S4 (WQ p c ns i z kk sl) K G0 G0 H0 [some (.adr p), some (.int many), x, none, none] [] σ G H) ?_ ?_
  · refine g_if (b_andx (b_testx (v_le (v_pool (j := 2) (v_var rfl) rfl) v_int)) fun _ => b_testx (v_lt (v_pool (j := 1) (v_var rfl) rfl) (v_poolLen (v_pool (j := 0) (v_var rfl) rfl)))) S (fun e G H S => ?_) (fun _ G H S => ⟨i, z, kk, sl, G, none, hi0, S⟩)
    have hlt : i < ns.length := by
      have e2 := (Bool.and_eq_true_iff.mp e.symm).2
      exact of_decide_eq_true e2
    have hx : ns[i.toNat]? = some ns[i.toNat] := List.getElem?_eq_getElem (by omega)
    refine q_setx (v_poolAt (v_pool (j := 0) (v_var rfl) rfl) (v_pool (j := 1) (v_var rfl) rfl) hi0 hx) S fun σ G H S => ?_
    refine q_pool (j := 1) (v_add (v_pool (j := 1) (v_var rfl) rfl) v_int) (v_var rfl) S (by omega) rfl fun G H S => ?_
    refine q_pool (j := 2) (v_var rfl) (v_var rfl) S (by omega) rfl fun G H S => ?_
    refine g_if (b_testx (v_lt (v_var rfl) v_int)) S (fun e G H S => ?_) (fun _ G H S => ⟨i + 1, _, kk, sl, G, _, by omega, S⟩)
    refine g_poolP (j := 2) (v_call0x (a_consx (v_var rfl) a_nil) ⟨_, rfl, rfl⟩) (v_var rfl) S (by omega) fun x G H S => ⟨i + 1, x, kk, sl, G, _, by omega, S⟩
  · rintro σ H ⟨i, z, kk, sl, G, x, hi, S⟩
    refine q_pool (j := 3) (v_add (v_pool (j := 3) (v_var rfl) rfl) v_int) (v_var rfl) S (by omega) rfl fun G H S => ?_
    refine q_when (b_testx (v_le (v_pool (j := 2) (v_var rfl) rfl) v_int)) S (fun _ G H S => ?_) (fun _ G H S => ?_)
    · refine q_setx (v_mod (v_int1 (v_add (v_add (v_mul (v_pool (j := 4) (v_var rfl) rfl) v_int (.inr ⟨by omega, by omega⟩)) (v_mul (v_pool (j := 3) (v_var rfl) rfl) v_int (.inr ⟨by omega, by omega⟩))) v_int)) v_int (by omega)) S fun σ G H S => ?_
      refine q_setx (v_mod (v_int1 (v_add (v_mul (v_var rfl) v_int (.inr ⟨by omega, by omega⟩)) (v_pool (j := 3) (v_var rfl) rfl))) v_int (by omega)) S fun σ G H S => ?_
      refine g_ret (P := Drawn many) (EvX.any (v_mod (v_fdiv (v_var rfl) v_int ⟨by omega, by omega⟩) (v_var rfl) hm0) ⟨_, rfl, Int.emod_nonneg _ (by omega), Int.emod_lt_of_pos _ hm0⟩) S ?_
      exact fun v d G2 H2 st pd rd => q v d G2 H2 (p_of_q hi st) pd rd
    · refine q_setx (v_mod (v_int1 (v_pool (j := 2) (v_var rfl) rfl)) (v_var rfl) hm0) S fun σ G H S => ?_
      refine q_pool (j := 2) (v_fdiv (v_pool (j := 2) (v_var rfl) rfl) (v_var rfl) ⟨hm0, by omega⟩) (v_var rfl) S (by omega) rfl fun G H S => ?_
      refine g_ret (P := Drawn many) (EvX.any (v_var rfl) ⟨_, rfl, Int.emod_nonneg _ (by omega), Int.emod_lt_of_pos _ hm0⟩) S ?_
      exact fun v d G2 H2 st pd rd => q v d G2 H2 (p_of_q hi st) pd rd

theorem ok_some (D : Df K mg "_law_some" s_law_some) (T : Txt K w mg C_Strings C_LeftSides C_InvalidMachine C_BadArgument) (c_law_draw : C8.Cal P w K mg base 2 "_law_draw" (spDraw K) []) : C8.Cal P w K mg base 3 "_law_some" (spSome K) [] := by
  refine cal_of D (fun _ _ _ _ _ _ us hl => match us, hl with | [_, _], _ => rfl) sc_law_some (fun vs H Q E ⟨_, _, _, _, _, _, _, r, ⟨_, _, _, e, _⟩, _⟩ => by rw [r.length, e]; rfl) fun f cdv A outer s H0 vs Q E hr h => ⟨_, (pss_one (ps_ret (pe_lc (own := [("k", 2)]) (g := gName 2) (tt := tYes) rfl sc_law_some.nd (pi_range1 rfl T.n_range (pa_cons (pv 1) pa_nil)) (blkOk_by (N := N_law_some) (sc := defScope s_law_some) (by decide +kernel)) (fun _ _ _ _ _ => pg_name (i := 2) sc_law_some.nd rfl (Or.inl rfl)) (fun _ _ _ _ _ => pts_nil) (fun _ _ _ _ _ => (C8.pe_c c_law_draw hr (by decide) rfl (pa_cons (pv 0) (pa_cons pe_int pa_nil))))))), ?_⟩
  obtain ⟨p, c, ns, G0, ds, P, k, r, ⟨m, hm0, hm1, rfl, rfl⟩, q⟩ := h
  have S := S4.start (N := N_law_some) k r
  exact g_ret (EvN.ev (n_lcE (v_var rfl) hm0 (by omega) fun i => v_draw (v_var rfl) v_int (by omega) (by omega)) fun ds ⟨ns, e, hl, hi⟩ => ⟨ns, by rw [e], hl, hi⟩) S q

end
abbrev dI (ns : List Int) : List Dat := ns.map Dat.int
def GoodR (r : List Int × List Int) : Prop := (1 ≤ r.1.length ∧ r.1.length ≤ 3 ∧ InB 3 r.1) ∧ r.2.length ≤ 3 ∧ InB 3 r.2
def A_srules : Sig := fun ds P => ∃ (ns : List Int) (m : Int), InB 4096 ns ∧ ns.length = 40 ∧ 0 ≤ m ∧ m ≤ 4 ∧ ds = [.lst (dI ns), .int m, .int 3] ∧ P = fun d => ∃ rules : List (List Int × List Int), d = .lst (rules.map rlD) ∧ rules.length ≤ 4 ∧ ∀ r ∈ rules, GoodR r
def A_machine (p : Addr) : Sig := fun ds P => ds = [.adr p, .str "strings"] ∧ P = fun d => ∃ rules : List (List Int × List Int), d = .tup (rules.map rlD) ∧ rules.length ≤ 4 ∧ ∀ r ∈ rules, GoodR r
def A_begin (p : Addr) : Sig := fun ds P => ∃ d : Dat, ds = [.adr p, .str "strings", d] ∧ P = fun d => ∃ ws, d = .tup (dI ws) ∧ ws.length ≤ 7
section
variable {P : Program} {w : World} {K : PySem.W.Frag} {mg : Str → Option Value} {base : Heap} {C_Strings C_LeftSides C_InvalidMachine C_BadArgument : Addr}
theorem ok_srules (D : Df K mg "_law_string_rules" s_law_string_rules) (T : Txt K w mg C_Strings C_LeftSides C_InvalidMachine C_BadArgument) : C8.Cal P w K mg base 1 "_law_string_rules" (spOf Wd0 K A_srules) [] := by
  refine cal_of D (fun _ _ _ _ _ _ us hl => match us, hl with | [_, _, _], _ => rfl) sc_law_string_rules (spOf_len (n := 3) fun _ _ ⟨_, _, _, _, _, _, e, _⟩ => by rw [e]; rfl) fun f cdv A outer s H0 vs Q E hr h => ⟨_, (pss_cons (ps_set (i := 3) sc_law_string_rules.nd rfl (by first | exact Or.inl rfl | exact Or.inr rfl) (pe_lst pa_nil))
      (pss_cons (ps_for PassesOwn.never rfl (pi_range1 rfl T.n_range (pa_cons (pv 1) pa_nil)) (pg_name (i := 4) sc_law_string_rules.nd rfl (by first | exact Or.inl rfl | exact Or.inr rfl))
        (pss_cons (ps_set (i := 5) sc_law_string_rules.nd rfl (by first | exact Or.inl rfl | exact Or.inr rfl) (pe_ix (r := rIxL K) ix_list (pv 0) (pv 4) (fun _ _ => rfl)))
      (pss_cons (ps_set (i := 6) sc_law_string_rules.nd rfl (by first | exact Or.inl rfl | exact Or.inr rfl) (pe_tupleOf rfl T.n_tuple (pe_lc (own := [("j", 8)]) (g := gName 8) (tt := tYes) rfl sc_law_string_rules.nd (pi_range1 rfl T.n_range (pa_cons (pe_op op_add pe_int (pe_op op_mod (pv 5) pe_int)) pa_nil)) (blkOk_by (N := N_law_string_rules) (sc := defScope s_law_string_rules) (by decide +kernel)) (fun _ _ _ _ _ => pg_name (i := 8) sc_law_string_rules.nd rfl (Or.inl rfl)) (fun _ _ _ _ _ => pts_nil) (fun _ _ _ _ _ => (pe_op op_mod (pe_ix (r := rIxL K) ix_list (pv 0) (pe_op op_add (pe_op op_add (pv 4) pe_int) (pv 8)) (fun _ _ => rfl)) (pv 2))))))
      (pss_cons (ps_set (i := 7) sc_law_string_rules.nd rfl (by first | exact Or.inl rfl | exact Or.inr rfl) (pe_tupleOf rfl T.n_tuple (pe_lc (own := [("j", 8)]) (g := gName 8) (tt := tYes) rfl sc_law_string_rules.nd (pi_range1 rfl T.n_range (pa_cons (pe_op op_mod (pe_op op_fdiv (pv 5) pe_int) pe_int) pa_nil)) (blkOk_by (N := N_law_string_rules) (sc := defScope s_law_string_rules) (by decide +kernel)) (fun _ _ _ _ _ => pg_name (i := 8) sc_law_string_rules.nd rfl (Or.inl rfl)) (fun _ _ _ _ _ => pts_nil) (fun _ _ _ _ _ => (pe_op op_mod (pe_ix (r := rIxL K) ix_list (pv 0) (pe_op op_add (pe_op op_add (pv 4) pe_int) (pv 8)) (fun _ _ => rfl)) (pv 2))))))
      (pss_one (ps_expr (pe_bm PySem.F.plainAttrs_list PySem.F.slot_list_append PySem.F.type_list_append mt_append (pv 3) (pa_cons (pe_tup (pa_cons (pv 6) (pa_cons (pv 7) pa_nil))) pa_nil))))))))
      (pss_one (ps_ret (pv 3))))), ?_⟩
  obtain ⟨G0, ds, P, k, r, ⟨ns, m, hi, hn, hm0, hm1, rfl, rfl⟩, q⟩ := h
  have S := S4.start (N := N_law_string_rules) k r
  refine q_setN (P := (· = [])) (n_lst a_nil fun ds e => by rw [e]; simp) S fun l ds σ G H e S => ?_
  subst e
  refine q_for1 (n := m) (a_consx (v_var rfl) a_nil) (by omega) S (fun i Γ O => ∃ (rs : List (List Int × List Int)) (z1 z2 z3 z4 : Option Dat), O = [(l, rs.map rlD)] ∧ Γ = [some (.lst (dI ns)), some (.int m), some (.int 3), some (.adr l), z1, z2, z3, z4, none] ∧ rs.length = i ∧ ∀ r ∈ rs, GoodR r) ⟨[], none, none, none, none, rfl, rfl, rfl, fun x h => nomatch h⟩ ?_ ?_ (by omega)
  · rintro i Γ O σ G H hlt ⟨rs, z1, z2, z3, z4, rfl, rfl, hl, hx⟩ S
    obtain ⟨a, hd, ha⟩ := drawn_at hi (i := i) (by omega)
    refine q_setx (d := .int a) (v_ixL (ds := dI ns) (j := i) (v_var rfl) (v_var (d := .int (i : Int)) rfl) rfl (by rw [List.getElem?_map, hd]; rfl)) S fun σ G H S => ?_
    refine q_set (P := fun d => ∃ u, d = .tup (dI u) ∧ 1 ≤ u.length ∧ u.length ≤ 3 ∧ InB 3 u) (v_tupleL (P := fun _ => True) (EvN.ev (n_lcB (b := 3) (m := 1 + a % 3) (v_add v_int (v_mod (v_var (d := .int a) rfl) v_int (by omega))) (by omega) (by omega) fun j hj => ?_) fun ds ⟨u, e, hu, hb⟩ => ⟨ds, rfl, u, by rw [e], by omega, by omega, hb⟩)) S fun d σ G H ⟨u, ed, hu1, hu2, hu3⟩ S => ?_
    · obtain ⟨b, hb, _⟩ := drawn_at hi (i := i + 9 + j) (by omega)
      exact v_rest (a := b) (v_ixL (ds := dI ns) (j := i + 9 + j) (v_var rfl) (v_add (v_add (v_var (d := .int (i : Int)) rfl) v_int) (v_var (d := .int (j : Int)) rfl)) (by omega) (by rw [List.getElem?_map, hb]; rfl)) (by omega) (v_var rfl)
    subst ed
    refine q_set (P := fun d => ∃ u, d = .tup (dI u) ∧ u.length ≤ 3 ∧ InB 3 u) (v_tupleL (P := fun _ => True) (EvN.ev (n_lcB (b := 3) (m := a / 3 % 4) (v_mod (v_fdiv (v_var (d := .int a) rfl) v_int ⟨by omega, by omega⟩) v_int (by omega)) (by omega) (by omega) fun j hj => ?_) fun ds ⟨u, e, hu, hb⟩ => ⟨ds, rfl, u, by rw [e], by omega, hb⟩)) S fun d σ G H ⟨u2, ed, hv2, hv3⟩ S => ?_
    · obtain ⟨b, hb, _⟩ := drawn_at hi (i := i + 20 + j) (by omega)
      exact v_rest (a := b) (v_ixL (ds := dI ns) (j := i + 20 + j) (v_var rfl) (v_add (v_add (v_var (d := .int (i : Int)) rfl) v_int) (v_var (d := .int (j : Int)) rfl)) (by omega) (by rw [List.getElem?_map, hb]; rfl)) (by omega) (v_var rfl)
    subst ed
    refine g_app (P := (· = rlD (u, u2))) (v_var rfl) (v_tupx (a_consx (v_var (d := .tup (dI u)) rfl) (a_consx (v_var (d := .tup (dI u2)) rfl) a_nil)) (by simp)) S (by rw [List.length_map]; omega) fun d G H hd S => ?_
    subst hd
    exact ⟨_, _, _, ⟨rs ++ [(u, u2)], _, _, _, _, by rw [List.map_append]; rfl, rfl, by rw [List.length_append, hl]; rfl, fun y hy => by
      rcases List.mem_append.mp hy with hy | hy
      · exact hx y hy
      · rw [List.mem_singleton.mp hy]
        exact ⟨⟨hu1, hu2, hu3⟩, hv2, hv3⟩⟩, S⟩
  · rintro Γ O σ G H ⟨rs, z1, z2, z3, z4, rfl, rfl, hl, hx⟩ S
    obtain ⟨G, S⟩ := S4.keep (i := 3) rfl S
    exact g_ret (EvX.any (v_var (d := .lst (rs.map rlD)) (i := 3) rfl) ⟨rs, rfl, by omega, hx⟩) S q
theorem ok_machine (D : Df K mg "_law_machine" s_law_machine) (T : Txt K w mg C_Strings C_LeftSides C_InvalidMachine C_BadArgument) (c_law_some : C8.Cal P w K mg base 3 "_law_some" (spSome K) []) (c_law_string_rules : C8.Cal P w K mg base 1 "_law_string_rules" (spOf Wd0 K A_srules) []) : C8.Cal P w K mg base 4 "_law_machine" (spD K A_machine) [] := by
  refine cal_of D (fun _ _ _ _ _ _ us hl => match us, hl with | [_, _], _ => rfl) sc_law_machine (spD_len (n := 2) fun _ _ _ ⟨e, _⟩ => by rw [e]; rfl) fun f cdv A outer s H0 vs Q E hr h => ⟨_, (pss_cons (ps_set (i := 2) sc_law_machine.nd rfl (by first | exact Or.inl rfl | exact Or.inr rfl) (C8.pe_c c_law_some hr (by decide) rfl (pa_cons (pv 0) (pa_cons pe_int pa_nil))))
      (pss_cons (ps_if (pt_cmpR op_eq (pv 1) pe_str (nomark _)) pss_never pss_nil)
      (pss_cons (ps_if (pt_cmpR op_eq (pv 1) pe_str (nomark _)) pss_never pss_nil)
      (pss_cons (ps_if (pt_cmpR op_eq (pv 1) pe_str (nomark _)) pss_never pss_nil)
      (pss_cons (ps_if (pt_cmpR op_eq (pv 1) pe_str (nomark _)) pss_never pss_nil)
      (pss_cons (ps_if (pt_cmpR op_eq (pv 1) pe_str (nomark _)) (pss_one (ps_ret (pe_tupleOf rfl T.n_tuple (C8.pe_c c_law_string_rules hr (by decide) rfl (pa_cons (pv 2) (pa_cons (pe_op op_mod (pe_ix (r := rIxL K) ix_list (pv 2) pe_int (fun _ _ => rfl)) pe_int) (pa_cons pe_int pa_nil))))))) pss_nil) pss_never)))))), ?_⟩
  obtain ⟨p, c, ns, G0, ds, P, k, r, ⟨rfl, rfl⟩, q⟩ := h
  have S := S4.start (N := N_law_machine) k r
  refine q_set (v_some (v_var rfl) v_int (by omega) (by omega)) S fun d σ G H ⟨us, ed, hl, hi⟩ S => ?_
  subst ed
  obtain ⟨a, ha, _⟩ := drawn_at hi (i := 30) (by omega)
  refine q_when (b_testx (v_eqS (v_var rfl) v_str)) S (fun e => absurd e.symm (by decide)) (fun _ G H S => ?_)
  refine q_when (b_testx (v_eqS (v_var rfl) v_str)) S (fun e => absurd e.symm (by decide)) (fun _ G H S => ?_)
  refine q_when (b_testx (v_eqS (v_var rfl) v_str)) S (fun e => absurd e.symm (by decide)) (fun _ G H S => ?_)
  refine q_when (b_testx (v_eqS (v_var rfl) v_str)) S (fun e => absurd e.symm (by decide)) (fun _ G H S => ?_)
  refine q_when (b_testx (v_eqS (v_var rfl) v_str)) S (fun _ G H S => ?_) (fun e => absurd e.symm (by decide))
  exact g_ret (v_tupleL (P := fun _ => True) (Ev.imp (v_call0x (a_consx (v_var rfl) (a_consx (d := .int (a % 5)) (v_mod (v_ixL (ds := dI us) (j := 30) (v_var rfl) v_int rfl (by rw [List.getElem?_map, ha]; rfl)) v_int (by omega)) (a_consx v_int a_nil))) ⟨us, a % 5, hi, by omega, by omega, by omega, rfl, rfl⟩) fun d ⟨rs, e, h⟩ => ⟨_, e, rs, rfl, h⟩)) S q
theorem ok_begin (D : Df K mg "_law_begin" s_law_begin) (T : Txt K w mg C_Strings C_LeftSides C_InvalidMachine C_BadArgument) (c_law_some : C8.Cal P w K mg base 3 "_law_some" (spSome K) []) : C8.Cal P w K mg base 4 "_law_begin" (spD K A_begin) [] := by
  refine cal_of D (fun _ _ _ _ _ _ us hl => match us, hl with | [_, _, _], _ => rfl) sc_law_begin (spD_len (n := 3) fun _ _ _ ⟨_, e, _⟩ => by rw [e]; rfl) fun f cdv A outer s H0 vs Q E hr h => ⟨_, (pss_cons (ps_set (i := 3) sc_law_begin.nd rfl (by first | exact Or.inl rfl | exact Or.inr rfl) (C8.pe_c c_law_some hr (by decide) rfl (pa_cons (pv 0) (pa_cons pe_int pa_nil))))
      (pss_cons (ps_if (pt_cmpR op_eq (pv 1) pe_str (nomark _)) pss_never pss_nil)
      (pss_cons (ps_if (pt_cmpR op_eq (pv 1) pe_str (nomark _)) pss_never pss_nil)
      (pss_cons (ps_if (pt_cmpR op_eq (pv 1) pe_str (nomark _)) pss_never pss_nil)
      (pss_cons (ps_if (pt_cmpR op_eq (pv 1) pe_str (nomark _)) pss_never pss_nil)
      (pss_cons (ps_if (pt_cmpR op_eq (pv 1) pe_str (nomark _)) (pss_one (ps_ret (pe_tupleOf rfl T.n_tuple (pe_lc (own := [("k", 4)]) (g := gName 4) (tt := tYes) rfl sc_law_begin.nd (pi_range1 rfl T.n_range (pa_cons (pe_op op_mod (pe_ix (r := rIxL K) ix_list (pv 3) pe_int (fun _ _ => rfl)) pe_int) pa_nil)) (blkOk_by (N := N_law_begin) (sc := defScope s_law_begin) (by decide +kernel)) (fun _ _ _ _ _ => pg_name (i := 4) sc_law_begin.nd rfl (Or.inl rfl)) (fun _ _ _ _ _ => pts_nil) (fun _ _ _ _ _ => (pe_op op_mod (pe_ix (r := rIxL K) ix_list (pv 3) (pe_op op_add pe_int (pv 4)) (fun _ _ => rfl)) pe_int)))))) pss_nil) pss_never)))))), ?_⟩
  obtain ⟨p, c, ns, G0, ds, P, k, r, ⟨d0, rfl, rfl⟩, q⟩ := h
  have S := S4.start (N := N_law_begin) k r
  refine q_set (v_some (v_var rfl) v_int (by omega) (by omega)) S fun d σ G H ⟨us, ed, hl, hi⟩ S => ?_
  subst ed
  obtain ⟨a, ha, _⟩ := drawn_at hi (i := 0) (by omega)
  refine q_when (b_testx (v_eqS (v_var rfl) v_str)) S (fun e => absurd e.symm (by decide)) (fun _ G H S => ?_)
  refine q_when (b_testx (v_eqS (v_var rfl) v_str)) S (fun e => absurd e.symm (by decide)) (fun _ G H S => ?_)
  refine q_when (b_testx (v_eqS (v_var rfl) v_str)) S (fun e => absurd e.symm (by decide)) (fun _ G H S => ?_)
  refine q_when (b_testx (v_eqS (v_var rfl) v_str)) S (fun e => absurd e.symm (by decide)) (fun _ G H S => ?_)
  refine q_when (b_testx (v_eqS (v_var rfl) v_str)) S (fun _ G H S => ?_) (fun e => absurd e.symm (by decide))
  refine g_ret (v_tupleL (P := fun _ => True) (EvN.ev (n_lcB (b := 3) (m := a % 8) (v_mod (v_ixL (ds := dI us) (j := 0) (v_var rfl) v_int rfl (by rw [List.getElem?_map, ha]; rfl)) v_int (by omega)) (by omega) (by omega) fun j hj => ?_) fun ds ⟨u, e, hu, hb⟩ => ⟨ds, rfl, u, by rw [e], by omega⟩)) S q
  obtain ⟨b, hb, _⟩ := drawn_at hi (i := 1 + j) (by omega)
  exact v_rest (a := b) (v_ixL (ds := dI us) (j := 1 + j) (v_var rfl) (v_add v_int (v_var (d := .int (j : Int)) rfl)) (by omega) (by rw [List.getElem?_map, hb]; rfl)) (by omega) v_int
end
end K09

set_option maxHeartbeats 4000000
namespace K09
open PySem L2 Ly
theorem cutD_mid (ds : List Dat) {a n : Nat} (h : a + n ≤ ds.length) : cutD ds (some (a : Int)) (some ((a : Int) + (n : Int))) = (ds.drop a).take n := by
  unfold cutD
  rw [← Int.natCast_add, HT.sIx_nat, HT.sIx_nat, Nat.min_eq_left h, Nat.min_eq_left (show a ≤ ds.length by omega), Nat.add_sub_cancel_left]
def A_lstep : Sig := fun ds P => ∃ (rules : List (List Int × List Int)) (conf : List Int), rules.length ≤ 100 ∧ (∀ r ∈ rules, r.1 ≠ [] ∧ r.1.length ≤ 100 ∧ r.2.length ≤ 100) ∧ conf.length ≤ 10000 ∧ ds = [.lst (rules.map rlD), .tup (dI conf)] ∧ P = StepP rules conf
section
variable {P : Program} {w : World} {K : PySem.W.Frag} {mg : Str → Option Value} {base : Heap} {C_Strings C_LeftSides C_InvalidMachine C_BadArgument : Addr}
theorem ok_lstep (D : Df K mg "_law_strings_step" s_law_strings_step) (T : Txt K w mg C_Strings C_LeftSides C_InvalidMachine C_BadArgument) : C8.Cal P w K mg base 1 "_law_strings_step" (spOf Wd0 K A_lstep) [] := by
  refine cal_of D (fun _ _ _ _ _ _ us hl => match us, hl with | [_, _], _ => rfl) sc_law_strings_step (spOf_len (n := 2) fun _ _ ⟨_, _, _, _, _, e, _⟩ => by rw [e]; rfl) fun f cdv A outer s H0 vs Q E hr h => ⟨_, (pss_cons (ps_for PassesOwn.never rfl (pi_list (pv 0)) (pg_tup rfl (pgs_cons (pg_name (i := 2) sc_law_strings_step.nd rfl (by first | exact Or.inl rfl | exact Or.inr rfl)) (pgs_cons (pg_name (i := 3) sc_law_strings_step.nd rfl (by first | exact Or.inl rfl | exact Or.inr rfl)) pgs_nil)))
        (pss_one (ps_for PassesOwn.never rfl (pi_range1 rfl T.n_range (pa_cons (pe_op op_add (pe_op op_sub (pe_callB (r := Ly.rLen K) call_len_seq (by rfl) T.n_len PySem.boot_len (pa_cons (pv 1) pa_nil)) (pe_callB (r := Ly.rLen K) call_len_seq (by rfl) T.n_len PySem.boot_len (pa_cons (pv 2) pa_nil))) pe_int) pa_nil)) (pg_name (i := 4) sc_law_strings_step.nd rfl (by first | exact Or.inl rfl | exact Or.inr rfl))
        (pss_one (ps_if (pt_cmpR (op_eqD hr.units) (pe_slice (r := rSlA K) sl_tupA (pv 1) (po_some (pv 4)) (po_some (pe_op op_add (pv 4) (pe_callB (r := Ly.rLen K) call_len_seq (by rfl) T.n_len PySem.boot_len (pa_cons (pv 2) pa_nil))))) (pv 2) (nomark _)) (pss_one (ps_ret (pe_op (r := rCatA K) op_catA (pe_op (r := rCatA K) op_catA (pe_slice (r := rSlA K) sl_tupA (pv 1) po_none (po_some (pv 4))) (pv 3)) (pe_slice (r := rSlA K) sl_tupA (pv 1) (po_some (pe_op op_add (pv 4) (pe_callB (r := Ly.rLen K) call_len_seq (by rfl) T.n_len PySem.boot_len (pa_cons (pv 2) pa_nil)))) po_none)))) pss_nil)))))
      (pss_one (ps_ret pe_non))), ?_⟩
  obtain ⟨G0, ds, P0, k, rr, ⟨rules, conf, hlen, hl5, hcl, rfl, rfl⟩, hQ⟩ := h
  have S := S4.start (N := N_law_strings_step) k rr
  refine q_forL2 (ds := rules.map rlD) (js := [2, 3]) (us := unT) (v_var rfl) (fun d hd => by
    obtain ⟨r, _, rfl⟩ := List.mem_map.mp hd
    exact ⟨rfl, rfl⟩) S (fun i Γ O => O = [] ∧ ∃ z1 z2 z3, Γ = [some (.lst (rules.map rlD)), some (.tup (dI conf)), z1, z2, z3] ∧ ∀ r s, r < i → s < conf.length → ¬ Tri.Hit (rules.map Prod.fst) [] (conf.drop s) r) ⟨rfl, none, none, none, rfl, fun r s h => absurd h (by omega)⟩ ?_ ?_
  · rintro G1 i d Γ O σ G H hd ⟨rfl, z1, z2, z3, rfl, hno⟩ S
    rw [List.getElem?_map] at hd
    obtain ⟨rl, hy, rfl⟩ := Option.map_eq_some_iff.mp hd
    obtain ⟨hne, h51, h52⟩ := hl5 rl (List.mem_of_getElem? hy)
    have hl1 : (rl.1.map Dat.int).length = rl.1.length := List.length_map _
    have hc1 : (dI conf).length = conf.length := List.length_map _
    have hpos : 0 < rl.1.length := List.length_pos_iff.mpr hne
    refine g_for1 (n := (conf.length : Int) - (rl.1.length : Int) + 1) (a_consx (v_add (v_sub (EvX.to (v_lenT (v_var (i := 1) (d := .tup (dI conf)) rfl)) (by rw [hc1])) (EvX.to (v_lenT (v_var (i := 2) (d := .tup (rl.1.map Dat.int)) rfl)) (by rw [hl1]))) v_int) a_nil) (by omega) S
      (fun j Γ O => O = [] ∧ ∃ z3, Γ = [some (.lst (rules.map rlD)), some (.tup (dI conf)), some (.tup (rl.1.map Dat.int)), some (.tup (rl.2.map Dat.int)), z3] ∧ ∀ s, s < j → ¬ Tri.Hit (rules.map Prod.fst) [] (conf.drop s) i) ⟨rfl, z3, rfl, fun s h => absurd h (by omega)⟩ ?_ ?_ (by omega)
    · rintro j Γ O σ G H hj ⟨rfl, z3, rfl, hno2⟩ S
      have hjl : j + rl.1.length ≤ conf.length := by omega
      refine g_if (P := (· = decide ((conf.drop j).take rl.1.length = rl.1))) (EvBX.to (b_testx (v_eqD (n := 1) (a := .tup (((conf.drop j).take rl.1.length).map Dat.int)) (EvX.to (v_slT (v_var (i := 1) (d := .tup (dI conf)) rfl) (o_some (v_var (i := 4) (d := .int (j : Int)) rfl)) (o_some (v_add (v_var (i := 4) (d := .int (j : Int)) rfl) (EvX.to (v_lenT (v_var (i := 2) (d := .tup (rl.1.map Dat.int)) rfl)) (by rw [hl1]))))) (by rw [cutD_mid _ (by rw [hc1]; exact hjl), List.map_take, List.map_drop])) (v_var (i := 2) (d := .tup (rl.1.map Dat.int)) rfl) (Pl.ints (by rw [List.length_take]; omega)) (Pl.ints (by omega)) (by omega))) (eqv_ints _ _)) S (fun e G H S => ?_) (fun e G H S => ?_)
      · have e : (conf.drop j).take rl.1.length = rl.1 := by simpa using e.symm
        refine g_ret (P := StepP rules conf) (Ev.imp (v_cat (v_cat (v_slT (v_var (i := 1) (d := .tup (dI conf)) rfl) o_none (o_some (v_var (i := 4) (d := .int (j : Int)) rfl))) (v_var (i := 3) (d := .tup (rl.2.map Dat.int)) rfl) (by rw [cutD_to, List.length_take, hc1, List.length_map]; omega)) (v_slT (v_var (i := 1) (d := .tup (dI conf)) rfl) (o_some (v_add (v_var (i := 4) (d := .int (j : Int)) rfl) (v_lenT (v_var (i := 2) (d := .tup (rl.1.map Dat.int)) rfl)))) o_none) (by rw [hl1, ← Int.natCast_add, cutD_from, cutD_to, List.length_append, List.length_drop, List.length_take, hc1, List.length_map]; omega)) fun d hd => ?_) S hQ
        subst hd
        refine .inr ⟨i, j, rl, hy, by omega, (hit_iff hy hne).mpr e, hno2, fun r s hs hh => ?_, ?_⟩
        · rcases Nat.lt_or_ge r i with h | h
          · exact absurd hh (hno r s h hs)
          · exact h
        · rw [hl1, ← Int.natCast_add, cutD_from, cutD_to, List.map_append, List.map_append, List.map_take, List.map_drop]
      · have e : ¬ (conf.drop j).take rl.1.length = rl.1 := by simpa using e.symm
        refine ⟨_, _, _, ⟨rfl, _, rfl, fun s hs => ?_⟩, S⟩
        rcases Nat.lt_or_ge s j with h | h
        · exact hno2 s h
        · have es : s = j := by omega
          subst es
          exact fun hh => e ((hit_iff hy hne).mp hh)
    · rintro Γ O σ G H ⟨rfl, z3, rfl, hno2⟩ S
      refine ⟨_, _, _, ⟨rfl, _, _, _, rfl, fun r s hr hs => ?_⟩, S⟩
      rcases Nat.lt_or_ge r i with h | h
      · exact hno r s h hs
      · have er : r = i := by omega
        subst er
        rcases Nat.lt_or_ge s ((conf.length : Int) - (rl.1.length : Int) + 1).toNat with h2 | h2
        · exact hno2 s h2
        · intro hh
          have := congrArg List.length ((hit_iff hy hne).mp hh)
          rw [List.length_take, List.length_drop] at this
          omega
  · rintro Γ O σ G H ⟨rfl, z1, z2, z3, rfl, hno⟩ S
    refine g_ret (P := StepP rules conf) (Ev.imp v_non fun d hd => ?_) S hQ
    subst hd
    refine .inl ⟨rfl, fun r s hs hh => ?_⟩
    have := Tri.hit_lt hh
    exact hno r s (by rwa [List.length_map] at this ⊢) hs hh
end
end K09

set_option maxHeartbeats 4000000
/-! # try: y = C(.., xs, ..), xs an own list, the object with lists of ints in its fields -/
namespace Ly
open PySem L2 PySem.Spec PyProof.Rows
mutual
/-- lists only such as begin with an int -/
def NI : Dat → Prop
  | .non => True
  | .bl _ => True
  | .int _ => True
  | .str _ => True
  | .adr _ => True
  | .tup ds => NIs ds
  | .lst ds => (∃ i r, ds = .int i :: r) ∧ NIs ds
  | .obj _ fs => NIf fs
  | .dct es => NId es
  | .dcs es => NIk es
def NIs : List Dat → Prop
  | [] => True
  | d :: ds => NI d ∧ NIs ds
def NIf : List (Str × Dat) → Prop
  | [] => True
  | (_, d) :: ds => NI d ∧ NIf ds
def NId : List (List Key × Dat) → Prop
  | [] => True
  | (_, d) :: ds => NI d ∧ NId ds
def NIk : List (Key × Dat) → Prop
  | [] => True
  | (_, d) :: ds => NI d ∧ NIk ds
end
section
variable {K : PySem.W.Frag} {G : Hp} {l : Addr} {xl : List V}
theorem lI_off (hl : G l = some (.lst xl)) (hx : ∀ i r, xl ≠ .int i :: r) {a : Addr} {xs : List V} {ds : List Dat} (hd : ∃ i r, ds = .int i :: r) (h : SqL K G a xs) (r : Reps K G xs ds) : SqL K (del G l) a xs := by
  have off : ∀ {o : HO}, G a = some o → (∀ z, o = .lst z → z = xs) → a ≠ l := fun {o} h1 h2 e => by
    subst e
    rw [hl] at h1
    cases h1
    have := h2 xl rfl
    subst this
    obtain ⟨i, t, rfl⟩ := hd
    cases r with
    | cons r _ =>
      cases r
      exact hx _ _ rfl
  rcases h with (h | ⟨o, h⟩) | h
  · refine .inl (.inl ?_)
    rw [del_ne (off h fun z e => by cases e; rfl)]
    exact h
  · refine .inl (.inr ⟨o, ?_⟩)
    rw [del_ne (off h fun z e => by cases e)]
    exact h
  · exact .inr h
mutual
theorem Rep.thawI (hl : G l = some (.lst xl)) (hx : ∀ i r, xl ≠ .int i :: r) : ∀ {v : V} {d : Dat}, NI d → Rep K G v d → Rep K (del G l) v d
  | _, _, _, .non => .non
  | _, _, _, .bl b => .bl b
  | _, _, _, .int i => .int i
  | _, _, _, .str x => .str x
  | _, _, _, .adr a => .adr a
  | _, _, n, .tup h r => by
    rw [NI] at n
    exact .tup (sqt_del hl h) (Reps.thawI hl hx n r)
  | _, _, n, .lst h r => by
    rw [NI] at n
    exact .lst (lI_off hl hx n.1 h r) (Reps.thawI hl hx n.2 r)
  | _, _, n, .obj h r => by
    rw [NI] at n
    exact .obj (G := del G l) (by rw [del_ne (ne_of h hl (by intro z; cases z))]; exact h) (Flds.thawI hl hx n r)
  | _, _, n, .dct h r => by
    rw [NI] at n
    exact .dct (G := del G l) (by rw [del_ne (ne_of h hl (by intro z; cases z))]; exact h) (Dcts.thawI hl hx n r)
  | _, _, n, .dcs h r => by
    rw [NI] at n
    exact .dcs (G := del G l) (by rw [del_ne (ne_of h hl (by intro z; cases z))]; exact h) (Dcks.thawI hl hx n r)
theorem Reps.thawI (hl : G l = some (.lst xl)) (hx : ∀ i r, xl ≠ .int i :: r) : ∀ {v : List V} {d : List Dat}, NIs d → Reps K G v d → Reps K (del G l) v d
  | _, _, _, .nil => .nil
  | _, _, n, .cons h r => by
    rw [NIs] at n
    exact .cons (Rep.thawI hl hx n.1 h) (Reps.thawI hl hx n.2 r)
theorem Flds.thawI (hl : G l = some (.lst xl)) (hx : ∀ i r, xl ≠ .int i :: r) : ∀ {v : List (Str × V)} {d : List (Str × Dat)}, NIf d → Flds K G v d → Flds K (del G l) v d
  | _, _, _, .nil => .nil
  | _, _, n, .cons h r => by
    rw [NIf] at n
    exact .cons (Rep.thawI hl hx n.1 h) (Flds.thawI hl hx n.2 r)
theorem Dcts.thawI (hl : G l = some (.lst xl)) (hx : ∀ i r, xl ≠ .int i :: r) : ∀ {v : List (List Key × V)} {d : List (List Key × Dat)}, NId d → Dcts K G v d → Dcts K (del G l) v d
  | _, _, _, .nil => .nil
  | _, _, n, .cons h r => by
    rw [NId] at n
    exact .cons (Rep.thawI hl hx n.1 h) (Dcts.thawI hl hx n.2 r)
theorem Dcks.thawI (hl : G l = some (.lst xl)) (hx : ∀ i r, xl ≠ .int i :: r) : ∀ {v : List (Key × V)} {d : List (Key × Dat)}, NIk d → Dcks K G v d → Dcks K (del G l) v d
  | _, _, _, .nil => .nil
  | _, _, n, .cons h r => by
    rw [NIk] at n
    exact .cons (Rep.thawI hl hx n.1 h) (Dcks.thawI hl hx n.2 r)
end
end
section
variable {W : Wd} {K : PySem.W.Frag} {Γ : List (Option Dat)} {tA : TA} {G1 G0 H0 G H : Hp} {O : List (Addr × List Dat)} {σ : L2.St} {D : Ends} {tz : TS} {C CE : Addr}
theorem g_tryMakeQLI {A : InitQ} {i j m : Nat} {l : Addr} {us : List Dat} {tsu : Addr → Value → Option Addr → TS} {Wout : WX} {ds : List Dat} {b : Bool} {F : List (Str × Dat) → Prop} (hi : Γ[m]? = some (some (.adr l))) (hm : (l, us) ∈ O) (hu : ∀ i r, us ≠ .int i :: r) (h : EvAX W K tA (Γ.set m (some (.lst us))) ds) (ha : A ds b F) (hN : ∀ fsd, F fsd → NIf fsd) (hx : PySem.W.exmOne K (.ref CE) (.ref CE) = some true) (S : S4 W K G1 G0 H0 Γ O σ G H)
    (k1 : b = false → ∀ (a : Addr) (G2 H2 : Hp), S4 W K G1 G0 H0 Γ O σ G2 H2 → ∀ H3, tsu a (.ref CE) none { nx := fun σ' H' => D.nx (σ'.set i none) H', rt := D.rt, bk := fun σ' H' => D.bk (σ'.set i none) H', ct := fun σ' H' => D.ct (σ'.set i none) H' } (σ.set i (some (.ref a))) H3)
    (k2 : b = true → ∀ fsd, F fsd → ∀ v G2 H2, S4 W K G1 G0 H0 (Γ.set j (some (.obj C fsd))) O (σ.set j (some v)) G2 H2 → D.nx (σ.set j (some v)) H2) :
    tAsg (tMakeS C (spInitQ K C CE A) (WE (wAs K (.ref CE) i tsu Wout D)) tA) (gName j) D σ H := by
  obtain ⟨ys, hy, ry⟩ := (S.own l us hm).at'
  obtain ⟨G', e, o, f⟩ := S.lookG hi hm
  obtain ⟨_, _, x0, g0⟩ := f G' H (Stp.refl o)
  have ex0 : x0 = ys := by
    have z := o.ex _ _ g0
    rw [hy] at z
    cases z
    rfl
  subst ex0
  have nx : ∀ i r, x0 ≠ .int i :: r := fun i r e => by
    subst e
    cases ry with
    | cons r1 r2 =>
      cases r1
      exact hu _ _ rfl
  refine h σ G' H e o _ fun vs ds' G2 H2 s ee rr => ?_
  subst ee
  refine make_runQ (C := C) (CE := CE) (Q := fun x H1 => gName j x σ H1 D.nx) (E := WE (wAs K (.ref CE) i tsu Wout D) σ) (s.ok o) rr ha (fun e H3 => ⟨true, hx, fun _ a _ => k1 e a _ H2 (f G2 H2 s).1 H3, fun z => Bool.noConfusion z⟩) fun e v d G3 H3 s3 p r3 => ?_
  obtain ⟨fsd, rfl, hF⟩ := p
  obtain ⟨S3, _, xs, g3⟩ := f G3 H3 (s.trans s3)
  exact k2 e fsd hF v _ H3 (S3.set (Rep.thawI ((s.trans s3).gg _ _ g0) nx (by rw [NI]; exact hN fsd hF) r3))
theorem q_tryMakeQLI {A : InitQ} {i j m : Nat} {l : Addr} {us : List Dat} {tsu : Addr → Value → Option Addr → TS} {Wout : WX} {ds : List Dat} {b : Bool} {F : List (Str × Dat) → Prop} (hi : Γ[m]? = some (some (.adr l))) (hm : (l, us) ∈ O) (hu : ∀ i r, us ≠ .int i :: r) (h : EvAX W K tA (Γ.set m (some (.lst us))) ds) (ha : A ds b F) (hN : ∀ fsd, F fsd → NIf fsd) (hx : PySem.W.exmOne K (.ref CE) (.ref CE) = some true) (S : S4 W K G1 G0 H0 Γ O σ G H)
    (k1 : b = false → ∀ (a : Addr) (G2 H2 : Hp), S4 W K G1 G0 H0 Γ O σ G2 H2 → ∀ (H3 : Hp) (D' : Ends), D'.rt = D.rt → tsu a (.ref CE) none D' (σ.set i (some (.ref a))) H3)
    (k2 : b = true → ∀ fsd, F fsd → ∀ v G2 H2, S4 W K G1 G0 H0 (Γ.set j (some (.obj C fsd))) O (σ.set j (some v)) G2 H2 → tz D (σ.set j (some v)) H2) :
    tSeq (fun D σ H => tAsg (tMakeS C (spInitQ K C CE A) (WE (wAs K (.ref CE) i tsu Wout D)) tA) (gName j) D σ H) tz D σ H := g_tryMakeQLI (D := { D with nx := tz D }) hi hm hu h ha hN hx S (fun e a G2 H2 S2 H3 => k1 e a G2 H2 S2 H3 _ rfl) k2
theorem NI.ints : ∀ ns : List Int, NIs (ns.map Dat.int)
  | [] => by simp [NIs]
  | n :: ns => by
    rw [List.map_cons, NIs]
    exact ⟨by rw [NI]; trivial, NI.ints ns⟩
end
theorem NIs.rl : ∀ rs : List (List Int × List Int), NIs (rs.map rlD)
  | [] => by simp [NIs]
  | r :: rs => by
    rw [List.map_cons, NIs]
    refine ⟨?_, NIs.rl rs⟩
    show NI (.tup [.tup (r.1.map Dat.int), .tup (r.2.map Dat.int)])
    rw [NI, NIs, NIs, NIs, NI, NI]
    exact ⟨NI.ints _, NI.ints _, trivial⟩
theorem NId.dkN : ∀ nn : List (List Int × Int), NId (dkN nn)
  | [] => by simp [Ly.dkN, NId]
  | n :: nn => by
    show NId ((_, Dat.int _) :: Ly.dkN nn)
    rw [NId, NI]
    exact ⟨trivial, NId.dkN nn⟩
theorem NIk.dkE : ∀ en : List (Int × Int), NIk (dkE en)
  | [] => by simp [Ly.dkE, NIk]
  | n :: en => by
    show NIk ((_, Dat.int _) :: Ly.dkE en)
    rw [NIk, NI]
    exact ⟨trivial, NIk.dkE en⟩
theorem NIf.sF (CL : Addr) (rules : List (List Int × List Int)) : NIf (sF CL rules) := by
  obtain ⟨ps, tr⟩ := Tri.build_tr (rules.map Prod.fst) rules.length (by rw [List.length_map]; exact Nat.le_refl _)
  have hl := tr.len
  have hz := tr.zero
  show NIf [_, _]
  rw [NIf, NIf, NIf, NI, NI]
  refine ⟨NIs.rl rules, ?_, trivial⟩
  show NIf [_, _, _]
  rw [NIf, NIf, NIf, NIf, NI, NI, NI]
  refine ⟨NId.dkN _, NIk.dkE _, ⟨?_, NI.ints _⟩, trivial⟩
  cases h : (Tri.build (rules.map Prod.fst) rules.length).ms with
  | nil =>
    rw [h, List.length_nil, List.length_eq_zero_iff] at hl
    rw [hl] at hz
    simp at hz
  | cons a r => exact ⟨a, _, rfl⟩
end Ly

set_option maxHeartbeats 4000000
namespace K09
open PySem L2 Ly
theorem b_like {W : Wd} {K : PySem.W.Frag} {Γ : List (Option Dat)} {ta tb : TE} {d : Dat} {E : XK} {n : Nat} (ha : EvX W K ta Γ d) (hb : EvX W K tb Γ d) (h : Pl n d) : EvBX W K (tNot (tB (tCall (spOf Wd0 K (A_like n)) [] E (tCons ta (tCons tb tNil))))) Γ false :=
  b_notx (a := true) (b_Bx (v_call0x (a_consx ha (a_consx hb a_nil)) ⟨d, h, rfl, rfl⟩))
theorem nls_rl : ∀ rs : List (List Int × List Int), NLs (rs.map rlD)
  | [] => by simp [NLs]
  | r :: rs => by
    rw [List.map_cons, NLs]
    refine ⟨?_, nls_rl rs⟩
    show NL (.tup [.tup (dI r.1), .tup (dI r.2)])
    rw [NL, NLs, NLs, NLs, NL, NL]
    exact ⟨NLs.ints _, NLs.ints _, trivial⟩
theorem pls_rl2 : ∀ {rs : List (List Int × List Int)}, (∀ r ∈ rs, r.1.length ≤ 100 ∧ r.2.length ≤ 100) → Pls 2 (rs.map rlD)
  | [], _ => by simp [Pls]
  | r :: rs, h => by
    rw [List.map_cons, Pls]
    have hr := h r List.mem_cons_self
    refine ⟨?_, pls_rl2 fun x hx => h x (List.mem_cons_of_mem _ hx)⟩
    show Pl 2 (.tup [_, _])
    rw [Pl]
    refine ⟨by simp, ?_⟩
    rw [Pls, Pls, Pls]
    exact ⟨Pl.ints (by omega), Pl.ints (by omega), trivial⟩
theorem pl_rls3 {rs : List (List Int × List Int)} (h : GoodL rs) : Pl 3 (.tup (rs.map rlD)) := by
  rw [Pl]
  exact ⟨by rw [List.length_map]; have := h.1; omega, pls_rl2 h.2⟩
theorem goodS_bad {rs : List (List Int × List Int)} {r : List Int × List Int} (hm : r ∈ rs) (h : (!r.1.isEmpty && (r.1 ++ r.2).all fun s => decide (0 ≤ s)) = false) : goodS rs = false := by
  unfold goodS
  rw [List.all_eq_false]
  exact ⟨r, hm, by rw [h]; simp⟩
theorem goodR_ok {r : List Int × List Int} (h : GoodR r) : (!r.1.isEmpty && (r.1 ++ r.2).all fun s => decide (0 ≤ s)) = true := by
  obtain ⟨⟨h1, h2, h3⟩, h4, h5⟩ := h
  rw [Bool.and_eq_true]
  constructor
  · match r, h1 with
    | (_ :: _, _), _ => rfl
  · rw [List.all_eq_true]
    intro x hx
    rcases List.mem_append.mp hx with hx | hx
    · exact decide_eq_true (h3 x hx).1
    · exact decide_eq_true (h5 x hx).1
theorem goodS_of {rs : List (List Int × List Int)} (h : ∀ r ∈ rs, GoodR r) : goodS rs = true := by
  unfold goodS
  rw [List.all_eq_true]
  exact fun r hr => goodR_ok (h r hr)
theorem goodR_ln {r : List Int × List Int} (h : GoodR r) : r.1.length ≤ 3 ∧ r.2.length ≤ 3 := ⟨h.1.2.1, h.2.1⟩
/-- what the law's fault has made of the drawn rules -/
structure Jn (b : Bool) (rs : List (List Int × List Int)) : Prop where
  len : rs.length ≤ 5
  sh : ∀ r ∈ rs, r.1.length ≤ 3 ∧ r.2.length ≤ 3
  good : b = true → ∀ r ∈ rs, GoodR r
  bad : b = false → goodS rs = false
theorem step_len {rules : List (List Int × List Int)} {conf : List Int} {d : Dat} (hs : ∀ r ∈ rules, r.1.length ≤ 3 ∧ r.2.length ≤ 3) (h : StepP rules conf d) : d = .non ∨ ∃ us : List Int, d = .tup (dI us) ∧ us.length ≤ conf.length + 3 := by
  rcases h with ⟨rfl, _⟩ | ⟨b, pl, rl, hr, hp, _, _, _, rfl⟩
  · exact .inl rfl
  · refine .inr ⟨_, rfl, ?_⟩
    have := (hs rl (List.mem_of_getElem? hr)).2
    rw [List.length_append, List.length_append, List.length_take, List.length_drop]
    omega
theorem step_pl {rules : List (List Int × List Int)} {conf : List Int} {d : Dat} (hs : ∀ r ∈ rules, r.1.length ≤ 3 ∧ r.2.length ≤ 3) (hl : conf.length ≤ 1000) (h : StepP rules conf d) : Pl 3 d := by
  rcases step_len hs h with rfl | ⟨us, rfl, hu⟩
  · rw [Pl]; trivial
  · exact Pl.ints (n := 2) (by omega)
section
variable {P : Program} {w : World} {K : PySem.W.Frag} {mg : Str → Option Value} {base : Heap} {C_Strings C_LeftSides C_InvalidMachine C_BadArgument : Addr}
theorem ok_law {f : Addr} {fd : FuncData} (F : Fun K "law" "law" s_law f fd) (T : Txt K w mg C_Strings C_LeftSides C_InvalidMachine C_BadArgument) (c_Strings_init : MakS P w K mg base 4 "Strings" C_Strings (spInitQ K C_Strings C_InvalidMachine (A_sinit C_LeftSides))) (c_Strings_eq : EqS P w K mg base 1 C_Strings (spOf Wd0 K (A_seq C_Strings C_LeftSides)))
    (c_Strings_step : C8.Met P w K mg base 2 C_Strings "step" (spOf Wd0 K (A_sstep C_Strings C_LeftSides)) []) (c_law_like : C8.Cal P w K mg base 4 "_law_like" (spOf Wd0 K (A_like 3)) []) (c_law_strings_step : C8.Cal P w K mg base 1 "_law_strings_step" (spOf Wd0 K A_lstep) [])
    (c_law_pool : C8.Cal P w K mg base 1 "_law_pool" (spPool K) []) (c_law_draw : C8.Cal P w K mg base 2 "_law_draw" (spDraw K) []) (c_law_machine : C8.Cal P w K mg base 4 "_law_machine" (spD K A_machine) []) (c_law_begin : C8.Cal P w K mg base 4 "_law_begin" (spD K A_begin) []) : FnOk P w K mg base CX0 6 f fd ["script"] (spLaw K) := by
  refine F.ok sc_law (fun vs H Q E ⟨_, _, e, _⟩ => by rw [e]; rfl) fun cdv A outer s H0 vs Q E hr h => ⟨_, (pss_cons (ps_set (i := 1) sc_law.nd rfl (by first | exact Or.inl rfl | exact Or.inr rfl) (C8.pe_c c_law_pool hr (by decide) rfl (pa_cons (pv 0) pa_nil)))
      (pss_cons (ps_set (i := 2) sc_law.nd rfl (by first | exact Or.inl rfl | exact Or.inr rfl) (pe_callTy call_list_of (by rfl) T.n_list (by decide +kernel) (pa_cons (C8.pe_c c_law_machine hr (by decide) rfl (pa_cons (pv 1) (pa_cons pe_str pa_nil))) pa_nil)))
      (pss_cons (ps_set (i := 3) sc_law.nd rfl (by first | exact Or.inl rfl | exact Or.inr rfl) pe_bl)
      (Evl.pss_cut (ps_if (pt_cmpR op_eq (C8.pe_c c_law_draw hr (by decide) rfl (pa_cons (pv 1) (pa_cons pe_int pa_nil))) pe_int (nomark _)) (pss_cons (ps_expr (pe_bm PySem.F.plainAttrs_list PySem.F.slot_list_insert PySem.F.type_list_insert mt_insert (pv 2) (pa_cons (C8.pe_c c_law_draw hr (by decide) rfl (pa_cons (pv 1) (pa_cons (pe_op op_add (pe_callB (r := Ly.rLen K) call_len_seq (by rfl) T.n_len PySem.boot_len (pa_cons (pv 2) pa_nil)) pe_int) pa_nil))) (pa_cons (pe_ix (r := rIxL K) ix_list (pe_lst (pa_cons (pe_tup (pa_cons (pe_tup pa_nil) (pa_cons (pe_tup (pa_cons pe_int pa_nil)) pa_nil))) (pa_cons (pe_tup (pa_cons (pe_tup pa_nil) (pa_cons (pe_tup pa_nil) pa_nil))) (pa_cons (pe_tup (pa_cons (pe_tup (pa_cons pe_int (pa_cons (pe_un un_neg pe_int) pa_nil))) (pa_cons (pe_tup pa_nil) pa_nil))) (pa_cons (pe_tup (pa_cons (pe_tup (pa_cons pe_int pa_nil)) (pa_cons (pe_tup (pa_cons pe_int (pa_cons (pe_un un_neg pe_int) pa_nil))) pa_nil))) pa_nil))))) (C8.pe_c c_law_draw hr (by decide) rfl (pa_cons (pv 1) (pa_cons pe_int pa_nil))) (fun _ _ => rfl)) pa_nil))))
      (pss_one (ps_set (i := 3) sc_law.nd rfl (by first | exact Or.inl rfl | exact Or.inr rfl) pe_bl))) pss_nil)
      (pss_cons (ps_set (i := 4) sc_law.nd rfl (by first | exact Or.inl rfl | exact Or.inr rfl) (pe_callTy call_list_of (by rfl) T.n_list (by decide +kernel) (pa_cons (pv 2) pa_nil)))
      (pss_cons (ps_try_as (i := 6) (tb := fun W => tAsg (tMakeS C_Strings (spInitQ K C_Strings C_InvalidMachine (A_sinit C_LeftSides)) (WE W) (tCons (tVar 4) tNil)) (gName 5)) (ts := fun a cls d => tRet (tAndV (tNotV (tVar 3)) (tNotV (tCB (rIsE2 K C_InvalidMachine a cls d) (tCons (tVar 6) (tCons (tC (.ref C_BadArgument)) tNil)))))) (Wout := fun _ _ _ _ => False) rfl rfl sc_law.nd rfl rfl ⟨rfl, by decide, Or.inl T.g_InvalidMachine⟩ takes0
        (fun W pn xe tk _ => pss_one (ps_set (i := 5) sc_law.nd rfl (by first | exact Or.inl rfl | exact Or.inr rfl) (by exact (pe_mkS c_Strings_init hr (by decide) (fun σ => passAt tk σ) rfl (pa_cons (pv 4) pa_nil)))))
        (fun a oe cls d pn hz hf => (pss_one (ps_ret (pe_and (pe_not (pv 3)) (pe_one (pe_not (pe_callB (r := rIsE2 K C_InvalidMachine a cls d) (call_isE2 T.e_InvalidMachine.is hz hf) (by rfl) T.n_isinstance (by decide +kernel) (pa_cons (pv 6) (pa_cons (pe_glob (v := .ref C_BadArgument) rfl T.g_BadArgument rfl) pa_nil))))))))))
      (pss_cons (ps_expr (pe_bm PySem.F.plainAttrs_list PySem.F.slot_list_append PySem.F.type_list_append mt_append (pv 4) (pa_cons (pe_tup (pa_cons (pe_tup (pa_cons pe_int pa_nil)) (pa_cons (pe_tup pa_nil) pa_nil))) pa_nil)))
      (pss_cons (ps_if (PW.pt (pw_or (pt_not (pt_val (pv 3))) (pw_or (pt_not (pt_val (C8.pe_c c_law_like hr (by decide) rfl (pa_cons (pe_fld (pv 5) rfl) (pa_cons (pe_tupleOf rfl T.n_tuple (pv 2)) pa_nil))))) (pw_or (pt_cmpR (op_neS c_Strings_eq hr (by decide)) (pv 5) (pe_mkX c_Strings_init hr (by decide) rfl (pa_cons (pv 2) pa_nil)) (nomark _)) (pw_or1 (pt_cmpR (op_eqS c_Strings_eq hr (by decide)) (pv 5) (pe_mkX c_Strings_init hr (by decide) rfl (pa_cons (pe_op (r := rCatL K) op_catL (pv 2) (pe_lst (pa_cons (pe_tup (pa_cons (pe_tup (pa_cons pe_int pa_nil)) (pa_cons (pe_tup pa_nil) pa_nil))) pa_nil))) pa_nil)) (nomark _))))))) (pss_one (ps_ret pe_bl)) pss_nil)
      (pss_cons (ps_set (i := 7) sc_law.nd rfl (by first | exact Or.inl rfl | exact Or.inr rfl) (C8.pe_c c_law_begin hr (by decide) rfl (pa_cons (pv 1) (pa_cons pe_str (pa_cons (pe_tupleOf rfl T.n_tuple (pv 2)) pa_nil)))))
      (pss_cons (ps_for PassesOwn.never rfl (pi_range1 rfl T.n_range (pa_cons pe_int pa_nil)) (pg_name (i := 8) sc_law.nd rfl (by first | exact Or.inl rfl | exact Or.inr rfl))
        (pss_cons (ps_set (i := 9) sc_law.nd rfl (by first | exact Or.inl rfl | exact Or.inr rfl) (C8.pe_c c_law_strings_step hr (by decide) rfl (pa_cons (pv 2) (pa_cons (pv 7) pa_nil))))
      (pss_cons (ps_if (pt_not (pt_val (C8.pe_c c_law_like hr (by decide) rfl (pa_cons (C8.pe_mt c_Strings_step hr (by decide) (pv 5) (pa_cons (pv 7) pa_nil)) (pa_cons (pv 9) pa_nil))))) (pss_one (ps_ret pe_bl)) pss_nil)
      (pss_cons (ps_if (pt_cmp (pc_isN (pv 9))) (pss_one (ps_ret pe_bl)) pss_nil)
      (pss_one (ps_set (i := 7) sc_law.nd rfl (by first | exact Or.inl rfl | exact Or.inr rfl) (pv 9)))))))
      (pss_one (ps_ret pe_bl)))))))))))), ?_⟩
  obtain ⟨a, sc, e, hS, hl, q⟩ := h
  have S := law_start (N := N_law) e hS
  refine q_newpool (v_var rfl) hl S fun p c σ G0 H0 S => ?_
  have S := S4.weak (.drop (Wk.refl _)) S
  refine q_setN (P := fun ds => ∃ rs : List (List Int × List Int), ds = rs.map rlD ∧ rs.length ≤ 4 ∧ ∀ r ∈ rs, GoodR r) (n_listTP (Ev.imp (v_callD (P := fun d => ∃ rs : List (List Int × List Int), d = .tup (rs.map rlD) ∧ rs.length ≤ 4 ∧ ∀ r ∈ rs, GoodR r) (a_consx (v_var rfl) (a_consx v_str a_nil)) fun ds e => ⟨e, rfl⟩) fun d ⟨rs, e, h⟩ => ⟨_, e, rs, rfl, h⟩)) S fun l ds σ G H ⟨rs, eds, hl4, hrs⟩ S => ?_
  subst eds
  refine q_setx v_bl S fun σ G H S => ?_
  refine q_cut (fun σ H => ∃ l b rs G, Jn b rs ∧ S4 (WP p c sc) K G0 G0 H0 [none, some (.adr p), some (.adr l), some (.bl b), none, none, none, none, none, none] [(l, rs.map rlD)] σ G H) ?_ ?_
  · refine g_if (b_drawnEq (v_draw (v_var rfl) v_int (by omega) (by omega)) v_int) S (fun _ G H S => ?_) (fun _ G H S => ⟨l, true, rs, G, ⟨by omega, fun r hr => goodR_ln (hrs r hr), fun _ => hrs, fun e => nomatch e⟩, S⟩)
    refine q_insW (O := []) (i := 2) (R := fun _ => True) (P := fun d => ∃ r : List Int × List Int, d = rlD r ∧ (r.1.length ≤ 3 ∧ r.2.length ≤ 3) ∧ (!r.1.isEmpty && (r.1 ++ r.2).all fun s => decide (0 ≤ s)) = false) (Wk.refl _) rfl rfl (nls_rl rs) (by simp [NLG, NL, NLs, NLf, nls_rl, setsG, N_law]) (fun _ _ h => nomatch h) (Ev.imp (v_draw (m := (rs.length : Int) + 1) (v_var rfl) (v_add (EvX.to (v_lenL (v_var (d := .lst (rs.map rlD)) rfl)) (congrArg Dat.int (by rw [List.length_map]))) v_int) (by omega) (by omega)) fun d ⟨v, e, v0, v1⟩ => ⟨v.toNat, by rw [e, Int.toNat_of_nonneg v0], by rw [List.length_map]; omega, trivial⟩) (Ev.imp (v_pick (m := 4) (v_lstx (a_consx (d := rlD ([], [1])) (v_tupx (a_consx (v_tupx a_nil (by simp)) (a_consx (v_tupx (a_consx v_int a_nil) (by simp)) a_nil)) (by simp)) (a_consx (d := rlD ([], [])) (v_tupx (a_consx (v_tupx a_nil (by simp)) (a_consx (v_tupx a_nil (by simp)) a_nil)) (by simp)) (a_consx (d := rlD ([0, -1], [])) (v_tupx (a_consx (v_tupx (a_consx v_int (a_consx (v_neg v_int) a_nil)) (by simp)) (a_consx (v_tupx a_nil (by simp)) a_nil)) (by simp)) (a_consx (d := rlD ([0], [2, -1])) (v_tupx (a_consx (v_tupx (a_consx v_int a_nil) (by simp)) (a_consx (v_tupx (a_consx v_int (a_consx (v_neg v_int) a_nil)) (by simp)) a_nil)) (by simp)) a_nil)))) (by simp)) (v_draw (v_var rfl) v_int (by omega) (by omega)) rfl) fun d hd => ?_) (fun d ⟨r, e, _⟩ => by
        rw [e]
        have := nls_rl [r]
        rw [List.map_cons, NLs] at this
        exact this.1) (by rw [List.length_map]; omega) S fun j d G H hj _ ⟨r, ed, hr3, hrb⟩ S => ?_
    · simp only [List.mem_cons, List.not_mem_nil, or_false] at hd
      rcases hd with rfl | rfl | rfl | rfl
      · exact ⟨_, rfl, by simp, rfl⟩
      · exact ⟨_, rfl, by simp, rfl⟩
      · exact ⟨_, rfl, by simp, rfl⟩
      · exact ⟨_, rfl, by simp, rfl⟩
    · subst ed
      rw [← List.map_take, ← List.map_drop, show [rlD r] = [r].map rlD from rfl, ← List.map_append, ← List.map_append] at S
      rw [List.length_map] at hj
      refine g_setx v_bl S fun σ G H S => ?_
      have hmem : ∀ x, x ∈ rs.take j ++ [r] ++ rs.drop j → x ∈ rs ∨ x = r := fun x hx => by
        rcases List.mem_append.mp hx with hx | hx
        · rcases List.mem_append.mp hx with hx | hx
          · exact .inl (List.mem_of_mem_take hx)
          · exact .inr (List.mem_singleton.mp hx)
        · exact .inl (List.mem_of_mem_drop hx)
      refine ⟨l, false, rs.take j ++ [r] ++ rs.drop j, G, ⟨by simp; omega, fun x hx => ?_, (fun e => nomatch e), fun _ => goodS_bad (r := r) (by simp) hrb⟩, S⟩
      rcases hmem x hx with h | rfl
      · exact goodR_ln (hrs x h)
      · exact hr3
  rintro σ H ⟨l, b, rs, G, J, S⟩
  have hl5 := J.len
  have gl : GoodL rs := ⟨by omega, fun r hr => by have := J.sh r hr; omega⟩
  obtain ⟨G, S⟩ := S4.keep (i := 2) rfl S
  refine q_setN (n_listL (v_var (d := .lst (rs.map rlD)) rfl)) S fun l2 ds σ G H e S => ?_
  subst e
  refine q_tryMakeQLI (m := 4) (b := goodS rs) (F := fun fsd => fsd = sF C_LeftSides rs) rfl List.mem_cons_self (fun i r e => by cases rs <;> cases e) (a_consx (v_var rfl) a_nil) ⟨rs, gl.1, gl.2, rfl, rfl, rfl⟩ (fun fsd h => by rw [h]; exact NIf.sF _ _) T.e_InvalidMachine.exm S (fun eb a G2 H2 S2 H3 D' eD => ?_) (fun eb fsd ht v G H S => ?_)
  · have eb : b = false := by
      cases b with
      | false => rfl
      | true =>
        rw [goodS_of (J.good rfl)] at eb
        cases eb
    subst eb
    obtain ⟨v3, h3, r3⟩ := S2.env.at' 3 (.bl false) rfl
    cases r3
    have hlen : σ.length = 10 := S2.env.len
    refine ⟨V.bl false, by rw [List.getElem?_set_ne (by decide)]; exact h3, false, rfl, true, rfl, ?_⟩
    rw [if_pos rfl]
    refine isE_run T.k_BA (List.getElem?_set_self (by omega)) ⟨false, rfl, ?_⟩
    rw [eD]
    exact q H3
  subst ht
  have eb2 : b = true := by
    cases b with
    | true => rfl
    | false =>
      rw [J.bad rfl] at eb
      cases eb
  subst eb2
  have hg := J.good rfl
  refine q_app (P := fun _ => True) (v_var rfl) (EvX.any (v_tupx (a_consx (v_tupx (a_consx v_int a_nil) (by simp)) (a_consx (v_tupx a_nil (by simp)) a_nil)) (by simp)) trivial) S (by rw [List.length_map]; omega) fun d G H _ S => ?_
  have S := S.drop
  have gl2 : GoodL (rs ++ [([0], [])]) := ⟨by simp; omega, fun r hr => by
    rcases List.mem_append.mp hr with h | h
    · exact gl.2 r h
    · rw [List.mem_singleton.mp h]
      simp⟩
  have gs2 : goodS (rs ++ [([0], [])]) = true := by
    unfold goodS
    rw [List.all_append]
    have := goodS_of hg
    unfold goodS at this
    rw [this]
    rfl
  refine q_when (P := (· = false)) (EvBX.to (b_orx (a := false) (b := false) (EvBX.to (b_notx (a := true) (b_Bx (v_var (d := .bl true) rfl))) rfl) fun _ => EvBX.to (b_orx (a := false) (b := false) (b_like (n := 3) (d := .tup (rs.map rlD)) (v_fld (v_var rfl) T.cls_Strings T.na_Strings_rules rfl) (v_tupleLx (v_var rfl)) (pl_rls3 gl)) fun _ => EvBX.to (b_orx (a := false) (b := false) (b_testx (v_eqOwnP (neg := true) (c := true) (F := fun fsd => fsd = sF C_LeftSides rs) (v_var rfl) (v_makeQ (a_consx (v_var rfl) a_nil) ⟨rs, gl.1, gl.2, rfl, eb.symm, rfl⟩) fun f2 hF => by subst hF; exact ⟨rs, rs, gl, gl, rfl, by simp⟩)) fun _ =>
    b_testx (v_eqOwnP (neg := false) (c := false) (F := fun fsd => fsd = sF C_LeftSides (rs ++ [([0], [])])) (v_var rfl) (v_makeQ (a_consx (EvN.evx (R := (· = (rs ++ [([0], [])]).map rlD)) (EvN.imp (n_catL (v_var (d := .lst (rs.map rlD)) rfl) (v_lstx (a_consx (d := rlD ([0], [])) (v_tupx (a_consx (v_tupx (a_consx v_int a_nil) (by simp)) (a_consx (v_tupx a_nil (by simp)) a_nil)) (by simp)) a_nil) (by simp)) (by simp; omega)) fun ds e => by rw [e, List.map_append]; rfl) fun ds e => e) a_nil) ⟨rs ++ [([0], [])], gl2.1, gl2.2, rfl, gs2.symm, rfl⟩) fun f2 hF => by subst hF; exact ⟨rs, _, gl, gl2, rfl, by simp⟩)) rfl) rfl) rfl) S (fun e => nomatch e) fun _ G H S => ?_
  refine q_set (v_callD (P := fun d => ∃ ws : List Int, d = .tup (dI ws) ∧ ws.length ≤ 7) (a_consx (v_var rfl) (a_consx v_str (a_consx (v_tupleLx (v_var (d := .lst (rs.map rlD)) rfl)) a_nil))) fun ds e => ⟨_, e, rfl⟩) S fun d σ G H ⟨ws, ed, hw7⟩ S => ?_
  subst ed
  have hls : ∀ r ∈ rs, r.1 ≠ [] ∧ r.1.length ≤ 100 ∧ r.2.length ≤ 100 := fun r hr => ⟨fun e => by have := (hg r hr).1.1; rw [e] at this; simp at this, gl.2 r hr⟩
  have S := S4.weak (Γ' := [none, some (.adr p), some (.lst (rs.map rlD)), none, none, some (.obj C_Strings (sF C_LeftSides rs)), none, some (.tup (dI ws)), none, none]) (.drop (.keep (.keep (.drop (.drop (.keep (.drop (.keep (.drop (.drop .nil)))))))))) S
  refine q_for1 (n := 8) (a_consx v_int a_nil) (by omega) S (fun i Γ O => O = [] ∧ ∃ ws z1 z2, Γ = [none, some (.adr p), some (.lst (rs.map rlD)), none, none, some (.obj C_Strings (sF C_LeftSides rs)), none, some (.tup (dI ws)), z1, z2] ∧ ws.length ≤ 7 + 3 * i) ⟨rfl, ws, none, none, rfl, by omega⟩ ?_ ?_ (by omega)
  · rintro i Γ O σ G H hi ⟨rfl, ws, z1, z2, rfl, hwl⟩ S
    refine q_set (P := StepP rs ws) (v_call0 (a_consx (v_var (d := .lst (rs.map rlD)) rfl) (a_consx (v_var (d := .tup (dI ws)) rfl) a_nil)) fun ds e => ⟨rs, ws, by omega, hls, by omega, e, rfl⟩) S fun d σ G H hd S => ?_
    refine q_when (b_like (n := 3) (d := d) (Ev.imp (v_meth0 (v_var (d := .obj C_Strings (sF C_LeftSides rs)) rfl) rfl (R := (· = [.tup (dI ws)])) (P := StepP rs ws) (a_consx (v_var rfl) a_nil) fun ds e => ⟨rs, ws, gl.1, gl.2, by omega, by rw [e], rfl⟩) fun e he => StepP.one he hd) (v_var rfl) (step_pl J.sh (by omega) hd)) S (fun e => nomatch e) fun _ G H S => ?_
    rcases step_len J.sh hd with rfl | ⟨us, rfl, hu⟩
    · refine q_when (b_Bx (v_isNx (v_var (d := .non) rfl))) S (fun _ G H S => ?_) (fun e => nomatch e)
      exact g_ret v_bl S (go_true q)
    · refine q_when (b_Bx (v_isNx (v_var (d := .tup (dI us)) rfl))) S (fun e => nomatch e) fun _ G H S => ?_
      refine g_setx (d := .tup (dI us)) (v_var rfl) S fun σ G H S => ?_
      exact ⟨_, _, _, ⟨rfl, us, some (.int (i : Int)), some (.tup (dI us)), rfl, by omega⟩, S⟩
  · rintro Γ O σ G H ⟨rfl, ws, z1, z2, rfl, _⟩ S
    exact g_ret v_bl S (go_true q)
end
end K09

set_option maxHeartbeats 4000000
/-! facts of a text's top read off the state by one kernel run: what k_head gives piece by piece, for great texts -/
namespace Hd
open PySem PySem.Spec PyProof.Rows L2 He Ly
/-! ### classes -/
/-- the class object at C: its own mro's rest, its table -/
def clsP (K : PySem.W.Frag) (C : Addr) : Option (Addr × List Value × Option String) := match K.lookup C with
  | some ⟨.type c, _, .cls cd, sl⟩ => (match cd.mro, sl.toList with
    | .ref c2 :: bm, [_, _, _, _, some (.builtin nw), _] => if decide (c = "type") && (decide (c2 = C) && (cd.hasDict && !cd.hasDel)) then some (cd.ns, bm, some nw) else none
    | _, _ => none)
  | _ => none
theorem clsP_ok {K : PySem.W.Frag} {C N : Addr} {bm : List Value} {nw : String} (h : clsP K C = some (N, bm, some nw)) :
    ∃ nm q bs sn sub ab col dd k0 k1 k2 k3 k5, K.lookup C = some (excClassObj nm q C N bs bm true sn sub ab col dd k0 k1 k2 k3 k5 nw) := by
  unfold clsP at h
  cases q : K.lookup C with
  | none => rw [q] at h; cases h
  | some o =>
    obtain ⟨oc, od, dt, sl⟩ := o
    rw [q] at h
    cases oc with
    | type c =>
      cases dt with
      | cls cd =>
        obtain ⟨nm, bs, mro, N', qn, hd, sn, sub, ab, col, hdel⟩ := cd
        obtain ⟨sl⟩ := sl
        dsimp only at h
        split at h
        · rename_i c2 bm' k0 k1 k2 k3 nw' k5
          split at h
          · rename_i hb
            obtain ⟨h1, h2⟩ := ba hb
            obtain ⟨h2, h3⟩ := ba h2
            obtain ⟨h3, h4⟩ := ba h3
            have e3 := of_decide_eq_true h1
            have e4 := of_decide_eq_true h2
            simp only [Option.some.injEq, Prod.mk.injEq] at h
            obtain ⟨r1, r2, r3⟩ := h
            have h3' : hd = true := h3
            have h4' : hdel = false := by
              cases hdel with
              | false => rfl
              | true => cases h4
            subst h3' h4' e3 e4 r1 r2 r3
            exact ⟨_, _, _, _, _, _, _, _, _, _, _, _, _, rfl⟩
          · cases h
        · cases h
      | _ => cases h
    | _ => cases dt <;> cases h
/-- its table -/
def clsN (K : PySem.W.Frag) (C : Addr) : Addr := match clsP K C with
  | some (N, _, _) => N
  | none => 0
/-- a class with an == of its own -/
def eqB (K : PySem.W.Frag) (C f : Addr) : Bool := (match clsP K C with
  | some (_, [.type b], some _) => decide (b = "object")
  | _ => false) && (PySem.W.nsOkIn K (clsN K C) && (eqO (PySem.W.nsIn K (clsN K C) "__eq__") (some (some (.ref f))) && eqO (PySem.W.nsIn K (clsN K C) "__ne__") (some none)))
theorem eqB_ok {K : PySem.W.Frag} {C f : Addr} (h : eqB K C f = true) : ∃ nm q N bs sn sub ab col dd k0 k1 k2 k3 k5 nw,
    K.lookup C = some (excClassObj nm q C N bs [.type "object"] true sn sub ab col dd k0 k1 k2 k3 k5 nw) ∧ PySem.W.nsOkIn K N = true ∧ PySem.W.nsIn K N "__eq__" = some (some (.ref f)) ∧ PySem.W.nsIn K N "__ne__" = some none := by
  obtain ⟨h1, h2⟩ := ba h
  obtain ⟨h2, h3⟩ := ba h2
  obtain ⟨h3, h4⟩ := ba h3
  split at h1
  · rename_i N b nw e
    have eb := of_decide_eq_true h1
    subst eb
    have eN : clsN K C = N := by unfold clsN; rw [e]
    rw [eN] at h2 h3 h4
    obtain ⟨nm, q, bs, sn, sub, ab, col, dd, k0, k1, k2, k3, k5, l⟩ := clsP_ok e
    exact ⟨nm, q, N, bs, sn, sub, ab, col, dd, k0, k1, k2, k3, k5, nw, l, h2, eqO_ok h3, eqO_ok h4⟩
  · cases h1
/-- an error's class -/
def errB (K : PySem.W.Frag) (C : Addr) : Bool := match clsP K C with
  | some (_, bm, some nw) => decide (nw = "ValueError.__new__") && PySem.HandSPX.refsVE bm
  | _ => false
theorem errB_ok {K : PySem.W.Frag} {C : Addr} (h : errB K C = true) : ∃ nm q N bs bm sn sub ab col dd k0 k1 k2 k3 k5,
    K.lookup C = some (excClassObj nm q C N bs bm true sn sub ab col dd k0 k1 k2 k3 k5 "ValueError.__new__") ∧ PySem.HandSPX.refsVE bm = true := by
  unfold errB at h
  split at h
  · rename_i N bm nw e
    obtain ⟨h1, h2⟩ := ba h
    have en := of_decide_eq_true h1
    subst en
    obtain ⟨nm, q, bs, sn, sub, ab, col, dd, k0, k1, k2, k3, k5, l⟩ := clsP_ok e
    exact ⟨nm, q, N, bs, bm, sn, sub, ab, col, dd, k0, k1, k2, k3, k5, l, h2⟩
  · cases h
/-! ### an error's __init__ that calls super -/
abbrev SuV : Type := Option (Str × Str × Arguments × FuncBody × Scope × Addr × List Str × Value × Addr)
def supObs (K : PySem.W.Frag) (f : Addr) : SuV := match K.lookup f with
  | some ⟨_, _, .func fd, _⟩ => some (fd.name, fd.qualname, fd.params, fd.body, fd.scope, fd.globals, fd.closure.map (·.1), fd.defaults, fd.builtins)
  | _ => none
def supB (K : PySem.W.Frag) (file : Str) (C f : Addr) : Bool := match K.lookup f with
  | some ⟨_, _, .func fd, _⟩ => (match fd.code, fd.closure with
    | .ref cda, [(_, cc)] => PySem.W.codeIn K (.ref cda) fd.qualname && ((match K.lookup cda with
      | some ⟨_, _, .fields ws, _⟩ => (match (ws[2]? : Option Value) with
        | some (.str fl _) => file == fl
        | _ => false)
      | _ => false) && (match K.lookup cc with
      | some ⟨_, _, .cell (some (.ref c)), _⟩ => decide (c = C)
      | _ => false))
    | _, _ => false)
  | _ => false
theorem supB_ok {K : PySem.W.Frag} {file q : Str} {C f : Addr} {ps : Arguments} {b : List Stmt} {sc : Scope} (e : supObs K f = (some ("__init__", q, ps, .stmts b, sc, mainGlobals, ["__class__"], .none, builtinsNs) : SuV)) (h : supB K file C f = true) :
    ∃ (oc : Value) (od : Option Addr) (kV doc pm : Value) (an : Option Addr) (cda cc : Addr) (ct : Value) (osl : Array (Option Value)), K.lookup f = some ⟨oc, od, .func (PySem.W.fnX "__init__" q ps b sc [("__class__", cc)] .none kV doc pm an (.ref cda) ct), osl⟩ ∧
      PySem.W.codeIn K (.ref cda) q = true ∧ (∃ (ccl : Value) (cdd : Option Addr) (ws : Array Value) (ccs : Array (Option Value)) (fl : Str) (tf : Tok), K.lookup cda = some ⟨ccl, cdd, .fields ws, ccs⟩ ∧ ws[2]? = some (.str fl tf) ∧ (file == fl) = true) ∧
      ∃ (cl : Value) (cld : Option Addr) (csl : Array (Option Value)), K.lookup cc = some ⟨cl, cld, .cell (some (.ref C)), csl⟩ := by
  unfold supObs at e
  unfold supB at h
  cases l : K.lookup f with
  | none => rw [l] at h; cases h
  | some o =>
    obtain ⟨oc, od, dt, osl⟩ := o
    rw [l] at h e
    cases dt with
    | func fd =>
      obtain ⟨n1, n2, n3, n4, n5, n6, n7, n8, n9, n10, n11, n12, n13, n14, n15⟩ := fd
      dsimp only at h e
      simp only [Option.some.injEq, Prod.mk.injEq] at e
      obtain ⟨e1, e2, e3, e4, e5, e6, e7, e8, e9⟩ := e
      subst e1 e2 e3 e4 e5 e6 e8 e9
      split at h
      · rename_i cda nm cc
        simp only [List.map_cons, List.map_nil, List.cons.injEq, and_true] at e7
        subst e7
        obtain ⟨h1, h2⟩ := ba h
        obtain ⟨h2, h3⟩ := ba h2
        refine ⟨oc, od, n9, n10, n11, n12, cda, cc, n14, osl, rfl, h1, ?_, ?_⟩
        · split at h2
          · rename_i ccl cdd ws ccs e2
            split at h2
            · rename_i fl tf e3
              exact ⟨ccl, cdd, ws, ccs, fl, tf, e2, e3, h2⟩
            · cases h2
          · cases h2
        · split at h3
          · rename_i cl cld c csl e2
            have ec := of_decide_eq_true h3
            subst ec
            exact ⟨cl, cld, csl, e2⟩
          · cases h3
      · cases h
    | _ => cases h
/-! ### written dicts and tuples -/
def kdO (e : DictEntry) : Option (Str × Int × Int) := match e.key, e.val with
  | .str x _, .int v _ => some (x, e.hash, v)
  | _, _ => none
def kdObs (K : PySem.W.Frag) (a : Addr) : Option (List (Option (Str × Int × Int))) := match K.lookup a with
  | some ⟨.type c, none, .dict es _, ⟨[]⟩⟩ => if decide (c = "dict") && !decide (a = sysModules) then some (es.toList.map kdO) else none
  | _ => none
def kdV (P : Params) (ks : List (Str × Int)) : List (Option (Str × Int × Int)) := ks.map fun k => some (k.1, PyData.keyHash P k.1, k.2)
theorem kdO_ok {P : Params} : ∀ {l : List DictEntry} {ks : List (Str × Int)}, l.map kdO = kdV P ks → Dkv P l ks
  | [], [], _ => trivial
  | [], _ :: _, h => by cases h
  | _ :: _, [], h => by cases h
  | e :: r, k :: ks, h => by
    simp only [kdV, List.map_cons, List.cons.injEq] at h
    obtain ⟨h1, h2⟩ := h
    refine ⟨?_, kdO_ok h2⟩
    unfold kdO at h1
    split at h1
    · rename_i x t v u e1 e2
      simp only [Option.some.injEq, Prod.mk.injEq] at h1
      obtain ⟨r1, r2, r3⟩ := h1
      subst r1 r3
      exact ⟨⟨t, e1⟩, r2, u, e2⟩
    · cases h1
theorem kdi_obs {K : PySem.W.Frag} {w : World} {a : Addr} {ks : List (Str × Int)} (h : kdObs K a = some (kdV w.params ks)) : KDi K w a ks := by
  unfold kdObs at h
  cases l : K.lookup a with
  | none => rw [l] at h; cases h
  | some o =>
    obtain ⟨oc, od, dt, osl⟩ := o
    rw [l] at h
    split at h
    · rename_i c es n e
      cases e
      split at h
      · rename_i hb
        obtain ⟨h1, h2⟩ := ba hb
        have ec := of_decide_eq_true h1
        subst ec
        refine kdi_of l (kdO_ok (Option.some.inj h)) ?_
        cases q : (a == sysModules) with
        | false => rfl
        | true =>
          rw [decide_eq_true (beq_iff_eq.mp q)] at h2
          cases h2
      · cases h
    · cases h
/-- the i-th item of the tuple at a -/
def itA (K : PySem.W.Frag) (a : Addr) (i : Nat) : Addr := match K.lookup a with
  | some ⟨_, _, .seq its _, _⟩ => (match its.toList[i]? with
    | some (.ref b) => b
    | _ => 0)
  | _ => 0
def tupA (K : PySem.W.Frag) (a : Addr) (vs : List V) : Bool := match K.lookup a with
  | some ⟨.type c, _, .seq its _, _⟩ => decide (c = "tuple") && (decide (its.size ≤ sizeLine) && relAll vs its.toList)
  | _ => false
theorem tupA_ok {K : PySem.W.Frag} {a : Addr} {vs : List V} (h : tupA K a vs = true) : ∃ od its n sl, K.lookup a = some ⟨.type "tuple", od, .seq its n, sl⟩ ∧ its.size ≤ sizeLine ∧ Vals vs its.toList := by
  unfold tupA at h
  cases l : K.lookup a with
  | none => rw [l] at h; cases h
  | some o =>
    obtain ⟨oc, od, dt, osl⟩ := o
    rw [l] at h
    cases oc with
    | type c =>
      cases dt with
      | seq its n =>
        obtain ⟨h1, h2⟩ := ba (show (decide (c = "tuple") && (decide (its.size ≤ sizeLine) && relAll vs its.toList)) = true from h)
        obtain ⟨h3, h4⟩ := ba h2
        have ec := of_decide_eq_true h1
        subst ec
        exact ⟨od, its, n, osl, rfl, of_decide_eq_true h3, relAll_ok h4⟩
      | _ => cases h
    | _ => cases dt <;> cases h
/-- an int of the module -/
def intB (K : PySem.W.Frag) (x : Str) (i : Int) : Bool := match PySem.W.nsIn K mainGlobals x with
  | some (some (.int j _)) => decide (j = i)
  | _ => false
theorem intB_ok {K : PySem.W.Frag} {x : Str} {i : Int} (h : intB K x i = true) : ∃ t, PySem.W.nsIn K mainGlobals x = some (some (.int i t)) := by
  unfold intB at h
  split at h
  · rename_i j t e
    have ej := of_decide_eq_true h
    subst ej
    exact ⟨t, e⟩
  · cases h
/-! ### the Hook -/
/-- a def -/
structure Fn where
  at_ : PySem.W.Frag → Addr
  name : Str
  qual : Str
  params : Arguments
  body : List Stmt
  scope : Scope
def fnO (K : PySem.W.Frag) (a : Addr) : FnV := match K.lookup a with
  | some ⟨_, _, .func fd, _⟩ => some (fd.name, fd.qualname, fd.params, fd.body, fd.scope, fd.globals, fd.closure, fd.defaults, fd.builtins)
  | _ => none
def Fn.val (d : Fn) : FnV := some (d.name, d.qual, d.params, .stmts d.body, d.scope, mainGlobals, [], .none, builtinsNs)
def Fn.ok (K : PySem.W.Frag) (d : Fn) : Bool := match K.lookup (d.at_ K) with
  | some ⟨_, _, .func fd, _⟩ => PySem.W.codeIn K fd.code d.qual
  | _ => false
theorem fnO_ok {K : PySem.W.Frag} {d : Fn} (e : fnO K (d.at_ K) = d.val) (c : d.ok K = true) :
    ∃ oc od osl kV doc pm an cdv ct, K.lookup (d.at_ K) = some ⟨oc, od, .func (PySem.W.fnOf d.name d.qual d.params d.body d.scope .none kV doc pm an cdv ct), osl⟩ ∧ PySem.W.codeIn K cdv d.qual = true := by
  unfold Fn.ok at c
  unfold fnO at e
  cases q : K.lookup (d.at_ K) with
  | none => rw [q] at c; cases c
  | some o =>
    obtain ⟨oc, od, dt, osl⟩ := o
    rw [q] at c e
    cases dt with
    | func fd =>
      obtain ⟨n1, n2, n3, n4, n5, n6, n7, n8, n9, n10, n11, n12, n13, n14, n15⟩ := fd
      have e2 : (some (n1, n2, n3, n4, n5, n6, n7, n8, n15) : FnV) = some (d.name, d.qual, d.params, .stmts d.body, d.scope, mainGlobals, [], .none, builtinsNs) := e
      simp only [Option.some.injEq, Prod.mk.injEq] at e2
      obtain ⟨h1, h2, h3, h4, h5, h6, h7, h8, h9⟩ := e2
      subst h1 h2 h3 h4 h5 h6 h7 h8 h9
      exact ⟨oc, od, osl, n9, n10, n11, n12, n13, n14, rfl, c⟩
    | _ => cases c
structure Facts where
  ex : PySem.W.Frag → Bool
  fn : List Fn
  sup : List ((PySem.W.Frag → Addr) × SuV)
  kd : List ((PySem.W.Frag → Addr) × List (Str × Int))
abbrev AlF : Type := Bool × List FnV × List SuV × List (Option (List (Option (Str × Int × Int))))
def obsK (F : Facts) (K : PySem.W.Frag) : AlF := (F.ex K && F.fn.all fun d => d.ok K, F.fn.map fun d => fnO K (d.at_ K), F.sup.map fun d => supObs K (d.1 K), F.kd.map fun d => kdObs K (d.1 K))
def valK (F : Facts) (w : World) : AlF := (true, F.fn.map Fn.val, F.sup.map fun d => d.2, F.kd.map fun d => some (kdV w.params d.2))
def Says (F : Facts) (w : World) (K : PySem.W.Frag) : Prop := obsK F K = valK F w
def hook (as : List Addr) (F : Facts) : PySem.W.Hook where
  α := AlF
  obs := fun s => obsK F (frG s.heap.get? as)
  val := fun w => valK F w
  says := fun w h => ∃ K : PySem.W.Frag, K.In h ∧ Says F w K
  of := fun _ _ e => ⟨_, frG_in, e⟩
  keeps := fun _ _ _ ⟨K, hK, c⟩ k => ⟨K, PySem.W.Frag.In.keeps hK k, c⟩
def ob (as : List Addr) (F : Facts) (s : PySem.W.SharedT) : AlF := obsK F (frG (HandSHeadRun.getT s) as)
theorem ob_eq {as : List Addr} {F : Facts} (s : PySem.W.SharedT) : ob as F s = (hook as F).obs s.abs := by
  have e : HandSHeadRun.getT s = s.abs.heap.get? := funext (HandSHeadRun.getT_eq s)
  unfold ob
  rw [e]
  rfl
section
variable {F : Facts} {w : World} {K : PySem.W.Frag}
theorem Says.more (c : Says F w K) : F.ex K = true := (ba (show (F.ex K && F.fn.all fun d => d.ok K) = true from congrArg (fun z : AlF => z.1) c)).1
theorem Says.def_ (c : Says F w K) (i : Nat) {d : Fn} (h : F.fn[i]? = some d := by rfl) :
    ∃ oc od osl kV doc pm an cdv ct, K.lookup (d.at_ K) = some ⟨oc, od, .func (PySem.W.fnOf d.name d.qual d.params d.body d.scope .none kV doc pm an cdv ct), osl⟩ ∧ PySem.W.codeIn K cdv d.qual = true := by
  have c2 := (ba (show (F.ex K && F.fn.all fun d => d.ok K) = true from congrArg (fun z : AlF => z.1) c)).2
  have e : F.fn.map (fun d => fnO K (d.at_ K)) = F.fn.map Fn.val := congrArg (fun z : AlF => z.2.1) c
  have e2 : (F.fn.map fun d => fnO K (d.at_ K))[i]? = (F.fn.map Fn.val)[i]? := by rw [e]
  rw [List.getElem?_map, List.getElem?_map, h] at e2
  exact fnO_ok (Option.some.inj e2) (List.all_eq_true.mp c2 d (List.mem_of_getElem? h))
theorem Says.sup_ (c : Says F w K) (i : Nat) {d : (PySem.W.Frag → Addr) × SuV} (h : F.sup[i]? = some d := by rfl) : supObs K (d.1 K) = d.2 := by
  have e : F.sup.map (fun d => supObs K (d.1 K)) = F.sup.map fun d => d.2 := congrArg (fun z : AlF => z.2.2.1) c
  have e2 : (F.sup.map fun d => supObs K (d.1 K))[i]? = (F.sup.map fun d => d.2)[i]? := by rw [e]
  rw [List.getElem?_map, List.getElem?_map, h] at e2
  exact Option.some.inj e2
theorem Says.kd_ (c : Says F w K) (i : Nat) {d : (PySem.W.Frag → Addr) × List (Str × Int)} (h : F.kd[i]? = some d := by rfl) : KDi K w (d.1 K) d.2 := by
  have e : F.kd.map (fun d => kdObs K (d.1 K)) = F.kd.map fun d => some (kdV w.params d.2) := congrArg (fun z : AlF => z.2.2.2) c
  have e2 : (F.kd.map fun d => kdObs K (d.1 K))[i]? = (F.kd.map fun d => some (kdV w.params d.2))[i]? := by rw [e]
  rw [List.getElem?_map, List.getElem?_map, h] at e2
  exact kdi_obs (Option.some.inj e2)
end
end Hd

set_option maxHeartbeats 4000000
namespace K09
open PySem L2 Ly
section
variable {P : Program} {w : World} {K : PySem.W.Frag} {mg : Str → Option Value} {base : Heap} {C_Strings C_LeftSides C_InvalidMachine C_BadArgument : Addr}
theorem ok_main (T : Txt K w mg C_Strings C_LeftSides C_InvalidMachine C_BadArgument) (D_LeftSides_init : ∃ f fd, Mk K C_LeftSides f ∧ Fun K "__init__" "LeftSides.__init__" s_LeftSides_init f fd) (D_LeftSides_least_rule : ∃ f fd, Meth K C_LeftSides "least_rule" f ∧ Fun K "least_rule" "LeftSides.least_rule" s_LeftSides_least_rule f fd) (D_Strings_init : ∃ f fd, Mk K C_Strings f ∧ Fun K "__init__" "Strings.__init__" s_Strings_init f fd) (D_Strings_eq : ∃ f fd, ClsQ K C_Strings f ∧ Fun K "__eq__" "Strings.__eq__" s_Strings_eq f fd) (D_Strings_step : ∃ f fd, Meth K C_Strings "step" f ∧ Fun K "step" "Strings.step" s_Strings_step f fd) (D_law_like : Df K mg "_law_like" s_law_like) (D_law_string_rules : Df K mg "_law_string_rules" s_law_string_rules) (D_law_strings_step : Df K mg "_law_strings_step" s_law_strings_step) (D_law_pool : Df K mg "_law_pool" s_law_pool) (D_law_spread : Df K mg "_law_spread" s_law_spread) (D_law_draw : Df K mg "_law_draw" s_law_draw) (D_law_some : Df K mg "_law_some" s_law_some) (D_law_machine : Df K mg "_law_machine" s_law_machine) (D_law_begin : Df K mg "_law_begin" s_law_begin) {f : Addr} {fd : FuncData} (F : Fun K "law" "law" s_law f fd) : FnOk P w K mg base CX0 6 f fd ["script"] (spLaw K) :=
  have cd := ok_draw D_law_draw T (ok_spread D_law_spread T)
  have cs := ok_some D_law_some T cd
  ok_law F T (ok_sinit D_Strings_init T (ok_linit D_LeftSides_init T)) (ok_seq D_Strings_eq T) (ok_sstep D_Strings_step T (ok_least D_LeftSides_least_rule T)) (ok_like D_law_like T 3) (ok_lstep D_law_strings_step T) (ok_pool D_law_pool T) cd (ok_machine D_law_machine T cs (ok_srules D_law_string_rules T)) (ok_begin D_law_begin T cs)
end
theorem all_mk {l : PySem.W.OpenLaw} {w : World} {K : PySem.W.Frag} {h : Heap} {mg : Str → Option Value} {fa f0 f1 f2 f3 f4 f5 f6 f7 f8 f9 f10 f11 f12 f13 f14 C_Strings C_LeftSides C_InvalidMachine C_BadArgument : Addr} (X : K.In h) (G : h.Ns mainGlobals mg) (hfa : mg "law" = some (.ref fa)) {t_MOST_RULES : Tok}
    {od0 an0 od1 an1 od2 an2 od3 an3 od4 an4 od5 an5 od6 an6 od7 an7 od8 an8 od9 an9 od10 an10 od11 an11 od12 an12 od13 an13 od14 an14 : Option Addr} {sl0 sl1 sl2 sl3 sl4 sl5 sl6 sl7 sl8 sl9 sl10 sl11 sl12 sl13 sl14 : Array (Option Value)} {oc0 kV0 dc0 pm0 cd0 ct0 oc1 kV1 dc1 pm1 cd1 ct1 oc2 kV2 dc2 pm2 cd2 ct2 oc3 kV3 dc3 pm3 cd3 ct3 oc4 kV4 dc4 pm4 cd4 ct4 oc5 kV5 dc5 pm5 cd5 ct5 oc6 kV6 dc6 pm6 cd6 ct6 oc7 kV7 dc7 pm7 cd7 ct7 oc8 kV8 dc8 pm8 cd8 ct8 oc9 kV9 dc9 pm9 cd9 ct9 oc10 kV10 dc10 pm10 cd10 ct10 oc11 kV11 dc11 pm11 cd11 ct11 oc12 kV12 dc12 pm12 cd12 ct12 oc13 kV13 dc13 pm13 cd13 ct13 oc14 kV14 dc14 pm14 cd14 ct14 : Value} {nm3 q3 : Str} {N3 : Addr} {bs3 : List Value} {sn3 : List Str} {sub3 : List Value} {ab3 : Bool} {col3 : Option Bool} {dd3 : Option Addr} {x03 x13 x23 x33 x53 : Option Value} {nw3 : String}
    (g_Strings : PySem.W.nsIn K mainGlobals "Strings" = some (some (.ref C_Strings)))
    (g_LeftSides : PySem.W.nsIn K mainGlobals "LeftSides" = some (some (.ref C_LeftSides)))
    (g_InvalidMachine : PySem.W.nsIn K mainGlobals "InvalidMachine" = some (some (.ref C_InvalidMachine)))
    (g_BadArgument : PySem.W.nsIn K mainGlobals "BadArgument" = some (some (.ref C_BadArgument)))
    (hn0 : PySem.W.specialIn K (.builtin "object.__class__") "__get__" = some (some (.builtin "getset_descriptor.__get__")))
    (ht0 : PySem.W.takesIn K (.builtin "object.__class__") = some true)
    (pg_Strings : PySem.W.plainGet K C_Strings Str.empty = true)
    (hd_Strings : PySem.W.hasDictIn K C_Strings = true)
    (po_Strings : PySem.W.plainOver K C_Strings = true)
    (sa_Strings : PySem.W.findIn K (.ref C_Strings) "__setattr__" = some (some (.builtin "object.__setattr__")))
    (mk_Strings : PySem.W.makesIn K C_Strings = true)
    (kp_Strings : PySem.W.keepIn K (.ref C_Strings) = true)
    (na_Strings_rules : PySem.W.findIn K (.ref C_Strings) "rules" = some none)
    (na_Strings__left_sides : PySem.W.findIn K (.ref C_Strings) "_left_sides" = some none)
    (ha_Strings : PySem.W.findIn K (.ref C_Strings) "__class__" = some (some (.builtin "object.__class__")))
    (hm_Strings : PySem.W.mroIn K C_Strings (.type "object") = some true)
    (pg_LeftSides : PySem.W.plainGet K C_LeftSides Str.empty = true)
    (hd_LeftSides : PySem.W.hasDictIn K C_LeftSides = true)
    (po_LeftSides : PySem.W.plainOver K C_LeftSides = true)
    (sa_LeftSides : PySem.W.findIn K (.ref C_LeftSides) "__setattr__" = some (some (.builtin "object.__setattr__")))
    (mk_LeftSides : PySem.W.makesIn K C_LeftSides = true)
    (kp_LeftSides : PySem.W.keepIn K (.ref C_LeftSides) = true)
    (na_LeftSides__next_nodes : PySem.W.findIn K (.ref C_LeftSides) "_next_nodes" = some none)
    (na_LeftSides__ends : PySem.W.findIn K (.ref C_LeftSides) "_ends" = some none)
    (na_LeftSides__makers : PySem.W.findIn K (.ref C_LeftSides) "_makers" = some none)
    (ha_LeftSides : PySem.W.findIn K (.ref C_LeftSides) "__class__" = some (some (.builtin "object.__class__")))
    (hm_LeftSides : PySem.W.mroIn K C_LeftSides (.type "object") = some true)
    (kp_InvalidMachine : PySem.W.keepIn K (.ref C_InvalidMachine) = true)
    (ex_InvalidMachine : PySem.W.excIn K C_InvalidMachine [.type "ValueError", .type "Exception", .type "BaseException", .type "object"] "ValueError.__new__" = true)
    (sb_InvalidMachine : PySem.W.subIn K (.ref C_InvalidMachine) (.type "BaseException") = some true)
    (ty_InvalidMachine : PySem.W.typeIn K (.ref C_InvalidMachine) = some (.type "type"))
    (hd_InvalidMachine : PySem.W.hasDictIn K C_InvalidMachine = true)
    (sf_InvalidMachine : PySem.W.subIn K (.ref C_InvalidMachine) (.ref C_InvalidMachine) = some true)
    (ga_InvalidMachine : PySem.W.findIn K (.ref C_InvalidMachine) "__getattribute__" = some (some (.builtin "BaseException.__getattribute__")))
    (gg_InvalidMachine : PySem.W.findIn K (.ref C_InvalidMachine) "__getattr__" = some none)
    (ha_InvalidMachine : PySem.W.findIn K (.ref C_InvalidMachine) "__class__" = some (some (.builtin "object.__class__")))
    (hm_InvalidMachine : PySem.W.mroIn K C_InvalidMachine (.type "object") = some true)
    (kit_k_BA : PySem.W.kitOne K (.ref C_InvalidMachine) (.ref C_BadArgument) = some false)
    (a0 : PySem.W.findIn K (.ref C_LeftSides) "__init__" = some (some (.ref f0)))
    (n0 : PySem.W.isFn K (.ref f0) = true)
    (l0 : K.lookup f0 = some ⟨oc0, od0, .func (PySem.W.fnOf "__init__" "LeftSides.__init__" (defArgs s_LeftSides_init) (defBody s_LeftSides_init) (defScope s_LeftSides_init) .none kV0 dc0 pm0 an0 cd0 ct0), sl0⟩)
    (c0 : PySem.W.codeIn K cd0 "LeftSides.__init__" = true)
    (k0 : PySem.W.keepIn K (.ref f0) = true)
    (a1 : PySem.W.findIn K (.ref C_LeftSides) "least_rule" = some (some (.ref f1)))
    (n1 : PySem.W.isFn K (.ref f1) = true)
    (l1 : K.lookup f1 = some ⟨oc1, od1, .func (PySem.W.fnOf "least_rule" "LeftSides.least_rule" (defArgs s_LeftSides_least_rule) (defBody s_LeftSides_least_rule) (defScope s_LeftSides_least_rule) .none kV1 dc1 pm1 an1 cd1 ct1), sl1⟩)
    (c1 : PySem.W.codeIn K cd1 "LeftSides.least_rule" = true)
    (k1 : PySem.W.keepIn K (.ref f1) = true)
    (a2 : PySem.W.findIn K (.ref C_Strings) "__init__" = some (some (.ref f2)))
    (n2 : PySem.W.isFn K (.ref f2) = true)
    (l2 : K.lookup f2 = some ⟨oc2, od2, .func (PySem.W.fnOf "__init__" "Strings.__init__" (defArgs s_Strings_init) (defBody s_Strings_init) (defScope s_Strings_init) .none kV2 dc2 pm2 an2 cd2 ct2), sl2⟩)
    (c2 : PySem.W.codeIn K cd2 "Strings.__init__" = true)
    (k2 : PySem.W.keepIn K (.ref f2) = true)
    (a3 : PySem.W.findIn K (.ref C_Strings) "__eq__" = some (some (.ref f3)))
    (n3 : PySem.W.isFn K (.ref f3) = true)
    (l3 : K.lookup f3 = some ⟨oc3, od3, .func (PySem.W.fnOf "__eq__" "Strings.__eq__" (defArgs s_Strings_eq) (defBody s_Strings_eq) (defScope s_Strings_eq) .none kV3 dc3 pm3 an3 cd3 ct3), sl3⟩)
    (c3 : PySem.W.codeIn K cd3 "Strings.__eq__" = true)
    (k3 : PySem.W.keepIn K (.ref f3) = true)
    (xl3 : K.lookup C_Strings = some (excClassObj nm3 q3 C_Strings N3 bs3 [.type "object"] true sn3 sub3 ab3 col3 dd3 x03 x13 x23 x33 x53 nw3))
    (xn3 : PySem.W.nsOkIn K N3 = true)
    (xe3 : PySem.W.nsIn K N3 "__eq__" = some (some (.ref f3)))
    (xx3 : PySem.W.nsIn K N3 "__ne__" = some none)
    (a4 : PySem.W.findIn K (.ref C_Strings) "step" = some (some (.ref f4)))
    (n4 : PySem.W.isFn K (.ref f4) = true)
    (l4 : K.lookup f4 = some ⟨oc4, od4, .func (PySem.W.fnOf "step" "Strings.step" (defArgs s_Strings_step) (defBody s_Strings_step) (defScope s_Strings_step) .none kV4 dc4 pm4 an4 cd4 ct4), sl4⟩)
    (c4 : PySem.W.codeIn K cd4 "Strings.step" = true)
    (k4 : PySem.W.keepIn K (.ref f4) = true)
    (a5 : PySem.W.nsIn K mainGlobals "_law_like" = some (some (.ref f5)))
    (l5 : K.lookup f5 = some ⟨oc5, od5, .func (PySem.W.fnOf "_law_like" "_law_like" (defArgs s_law_like) (defBody s_law_like) (defScope s_law_like) .none kV5 dc5 pm5 an5 cd5 ct5), sl5⟩)
    (c5 : PySem.W.codeIn K cd5 "_law_like" = true)
    (k5 : PySem.W.keepIn K (.ref f5) = true)
    (a6 : PySem.W.nsIn K mainGlobals "_law_string_rules" = some (some (.ref f6)))
    (l6 : K.lookup f6 = some ⟨oc6, od6, .func (PySem.W.fnOf "_law_string_rules" "_law_string_rules" (defArgs s_law_string_rules) (defBody s_law_string_rules) (defScope s_law_string_rules) .none kV6 dc6 pm6 an6 cd6 ct6), sl6⟩)
    (c6 : PySem.W.codeIn K cd6 "_law_string_rules" = true)
    (k6 : PySem.W.keepIn K (.ref f6) = true)
    (a7 : PySem.W.nsIn K mainGlobals "_law_strings_step" = some (some (.ref f7)))
    (l7 : K.lookup f7 = some ⟨oc7, od7, .func (PySem.W.fnOf "_law_strings_step" "_law_strings_step" (defArgs s_law_strings_step) (defBody s_law_strings_step) (defScope s_law_strings_step) .none kV7 dc7 pm7 an7 cd7 ct7), sl7⟩)
    (c7 : PySem.W.codeIn K cd7 "_law_strings_step" = true)
    (k7 : PySem.W.keepIn K (.ref f7) = true)
    (a8 : PySem.W.nsIn K mainGlobals "_law_pool" = some (some (.ref f8)))
    (l8 : K.lookup f8 = some ⟨oc8, od8, .func (PySem.W.fnOf "_law_pool" "_law_pool" (defArgs s_law_pool) (defBody s_law_pool) (defScope s_law_pool) .none kV8 dc8 pm8 an8 cd8 ct8), sl8⟩)
    (c8 : PySem.W.codeIn K cd8 "_law_pool" = true)
    (k8 : PySem.W.keepIn K (.ref f8) = true)
    (a9 : PySem.W.nsIn K mainGlobals "_law_spread" = some (some (.ref f9)))
    (l9 : K.lookup f9 = some ⟨oc9, od9, .func (PySem.W.fnOf "_law_spread" "_law_spread" (defArgs s_law_spread) (defBody s_law_spread) (defScope s_law_spread) .none kV9 dc9 pm9 an9 cd9 ct9), sl9⟩)
    (c9 : PySem.W.codeIn K cd9 "_law_spread" = true)
    (k9 : PySem.W.keepIn K (.ref f9) = true)
    (a10 : PySem.W.nsIn K mainGlobals "_law_draw" = some (some (.ref f10)))
    (l10 : K.lookup f10 = some ⟨oc10, od10, .func (PySem.W.fnOf "_law_draw" "_law_draw" (defArgs s_law_draw) (defBody s_law_draw) (defScope s_law_draw) .none kV10 dc10 pm10 an10 cd10 ct10), sl10⟩)
    (c10 : PySem.W.codeIn K cd10 "_law_draw" = true)
    (k10 : PySem.W.keepIn K (.ref f10) = true)
    (a11 : PySem.W.nsIn K mainGlobals "_law_some" = some (some (.ref f11)))
    (l11 : K.lookup f11 = some ⟨oc11, od11, .func (PySem.W.fnOf "_law_some" "_law_some" (defArgs s_law_some) (defBody s_law_some) (defScope s_law_some) .none kV11 dc11 pm11 an11 cd11 ct11), sl11⟩)
    (c11 : PySem.W.codeIn K cd11 "_law_some" = true)
    (k11 : PySem.W.keepIn K (.ref f11) = true)
    (a12 : PySem.W.nsIn K mainGlobals "_law_machine" = some (some (.ref f12)))
    (l12 : K.lookup f12 = some ⟨oc12, od12, .func (PySem.W.fnOf "_law_machine" "_law_machine" (defArgs s_law_machine) (defBody s_law_machine) (defScope s_law_machine) .none kV12 dc12 pm12 an12 cd12 ct12), sl12⟩)
    (c12 : PySem.W.codeIn K cd12 "_law_machine" = true)
    (k12 : PySem.W.keepIn K (.ref f12) = true)
    (a13 : PySem.W.nsIn K mainGlobals "_law_begin" = some (some (.ref f13)))
    (l13 : K.lookup f13 = some ⟨oc13, od13, .func (PySem.W.fnOf "_law_begin" "_law_begin" (defArgs s_law_begin) (defBody s_law_begin) (defScope s_law_begin) .none kV13 dc13 pm13 an13 cd13 ct13), sl13⟩)
    (c13 : PySem.W.codeIn K cd13 "_law_begin" = true)
    (k13 : PySem.W.keepIn K (.ref f13) = true)
    (a14 : PySem.W.nsIn K mainGlobals "law" = some (some (.ref f14)))
    (l14 : K.lookup f14 = some ⟨oc14, od14, .func (PySem.W.fnOf "law" "law" (defArgs s_law) (defBody s_law) (defScope s_law) .none kV14 dc14 pm14 an14 cd14 ct14), sl14⟩)
    (c14 : PySem.W.codeIn K cd14 "law" = true)
    (k14 : PySem.W.keepIn K (.ref f14) = true)
    (z_all : PySem.W.nsIn K mainGlobals "all" = some none)
    (z_bool : PySem.W.nsIn K mainGlobals "bool" = some none)
    (z_enumerate : PySem.W.nsIn K mainGlobals "enumerate" = some none)
    (z_int : PySem.W.nsIn K mainGlobals "int" = some none)
    (z_isinstance : PySem.W.nsIn K mainGlobals "isinstance" = some none)
    (z_len : PySem.W.nsIn K mainGlobals "len" = some none)
    (z_list : PySem.W.nsIn K mainGlobals "list" = some none)
    (z_min : PySem.W.nsIn K mainGlobals "min" = some none)
    (z_range : PySem.W.nsIn K mainGlobals "range" = some none)
    (z_str : PySem.W.nsIn K mainGlobals "str" = some none)
    (z_tuple : PySem.W.nsIn K mainGlobals "tuple" = some none)
    (m_MOST_RULES : PySem.W.nsIn K mainGlobals "MOST_RULES" = some (some (.int 100000 t_MOST_RULES))) :
    ∃ fd : FuncData, (∀ (s : Shared) (u : Value), BindsTo s fd ⟨[u], []⟩ [("script", u)]) ∧ ∀ base : Heap, K.In base → base.Ns mainGlobals mg → FnOk l.prog w K mg base CX0 6 fa fd ["script"] (spLaw K) := by
  have e := hfa.symm.trans (PySem.W.mg_of X G a14)
  cases e
  have T : Txt K w mg C_Strings C_LeftSides C_InvalidMachine C_BadArgument := { g_Strings := PySem.W.mg_of X G g_Strings, g_LeftSides := PySem.W.mg_of X G g_LeftSides, g_InvalidMachine := PySem.W.mg_of X G g_InvalidMachine, g_BadArgument := PySem.W.mg_of X G g_BadArgument, na_Strings_rules := na_Strings_rules, na_Strings__left_sides := na_Strings__left_sides, cls_Strings := ⟨pg_Strings, hd_Strings, po_Strings, sa_Strings⟩, na_LeftSides__next_nodes := na_LeftSides__next_nodes, na_LeftSides__ends := na_LeftSides__ends, na_LeftSides__makers := na_LeftSides__makers, cls_LeftSides := ⟨pg_LeftSides, hd_LeftSides, po_LeftSides, sa_LeftSides⟩, e_InvalidMachine := ⟨PySem.W.mg_of X G g_InvalidMachine, kp_InvalidMachine, ex_InvalidMachine, sb_InvalidMachine, ty_InvalidMachine, hd_InvalidMachine, sf_InvalidMachine, ⟨ga_InvalidMachine, gg_InvalidMachine, sb_InvalidMachine, hd_InvalidMachine, ha_InvalidMachine, hn0, ht0, hm_InvalidMachine⟩⟩, k_BA := kit_k_BA, n_all := PySem.W.mg_none_of X G z_all, n_bool := PySem.W.mg_none_of X G z_bool, n_enumerate := PySem.W.mg_none_of X G z_enumerate, n_int := PySem.W.mg_none_of X G z_int, n_isinstance := PySem.W.mg_none_of X G z_isinstance, n_len := PySem.W.mg_none_of X G z_len, n_list := PySem.W.mg_none_of X G z_list, n_min := PySem.W.mg_none_of X G z_min, n_range := PySem.W.mg_none_of X G z_range, n_str := PySem.W.mg_none_of X G z_str, n_tuple := PySem.W.mg_none_of X G z_tuple, m_MOST_RULES := ⟨_, PySem.W.mg_of X G m_MOST_RULES, ⟨_, rfl⟩⟩ }
  exact ⟨PySem.W.fnOf "law" "law" (defArgs s_law) (defBody s_law) (defScope s_law) .none kV14 dc14 pm14 an14 cd14 ct14, fun s u => .of_eq rfl, fun base _ _ => ok_main T ⟨_, _, ⟨mk_LeftSides, a0, n0, kp_LeftSides⟩, L2.fun_mk (st := s_LeftSides_init) l0 c0 k0⟩ ⟨_, _, ⟨a1, n1, k1⟩, L2.fun_mk (st := s_LeftSides_least_rule) l1 c1 k1⟩ ⟨_, _, ⟨mk_Strings, a2, n2, kp_Strings⟩, L2.fun_mk (st := s_Strings_init) l2 c2 k2⟩ ⟨_, _, ⟨⟨pg_Strings, hd_Strings, po_Strings, sa_Strings⟩, a3, n3, ⟨_, _, _, _, _, _, _, _, _, _, _, _, _, _, _, xl3, xn3, xe3, xx3⟩, ha_Strings, hn0, ht0, hm_Strings⟩, L2.fun_mk (st := s_Strings_eq) l3 c3 k3⟩ ⟨_, _, ⟨a4, n4, k4⟩, L2.fun_mk (st := s_Strings_step) l4 c4 k4⟩ ⟨_, _, L2.fun_mk (st := s_law_like) l5 c5 k5, PySem.W.mg_of X G a5⟩ ⟨_, _, L2.fun_mk (st := s_law_string_rules) l6 c6 k6, PySem.W.mg_of X G a6⟩ ⟨_, _, L2.fun_mk (st := s_law_strings_step) l7 c7 k7, PySem.W.mg_of X G a7⟩ ⟨_, _, L2.fun_mk (st := s_law_pool) l8 c8 k8, PySem.W.mg_of X G a8⟩ ⟨_, _, L2.fun_mk (st := s_law_spread) l9 c9 k9, PySem.W.mg_of X G a9⟩ ⟨_, _, L2.fun_mk (st := s_law_draw) l10 c10 k10, PySem.W.mg_of X G a10⟩ ⟨_, _, L2.fun_mk (st := s_law_some) l11 c11 k11, PySem.W.mg_of X G a11⟩ ⟨_, _, L2.fun_mk (st := s_law_machine) l12 c12 k12, PySem.W.mg_of X G a12⟩ ⟨_, _, L2.fun_mk (st := s_law_begin) l13 c13 k13, PySem.W.mg_of X G a13⟩ (L2.fun_mk (st := s_law) l14 c14 k14)⟩
/-! ### the head -/
abbrev PR : Program := PySem.Challenge.pw_translatory_k09_string_systems
def PFILE : Str := PR.main.file
abbrev d0 : Hd.Fn := ⟨fun K => (He.ma K (He.ga K "LeftSides") "__init__"), "__init__", "LeftSides.__init__", defArgs s_LeftSides_init, defBody s_LeftSides_init, defScope s_LeftSides_init⟩
abbrev d1 : Hd.Fn := ⟨fun K => (He.ma K (He.ga K "LeftSides") "least_rule"), "least_rule", "LeftSides.least_rule", defArgs s_LeftSides_least_rule, defBody s_LeftSides_least_rule, defScope s_LeftSides_least_rule⟩
abbrev d2 : Hd.Fn := ⟨fun K => (He.ma K (He.ga K "Strings") "__init__"), "__init__", "Strings.__init__", defArgs s_Strings_init, defBody s_Strings_init, defScope s_Strings_init⟩
abbrev d3 : Hd.Fn := ⟨fun K => (He.ma K (He.ga K "Strings") "__eq__"), "__eq__", "Strings.__eq__", defArgs s_Strings_eq, defBody s_Strings_eq, defScope s_Strings_eq⟩
abbrev d4 : Hd.Fn := ⟨fun K => (He.ma K (He.ga K "Strings") "step"), "step", "Strings.step", defArgs s_Strings_step, defBody s_Strings_step, defScope s_Strings_step⟩
abbrev d5 : Hd.Fn := ⟨fun K => (He.ga K "_law_like"), "_law_like", "_law_like", defArgs s_law_like, defBody s_law_like, defScope s_law_like⟩
abbrev d6 : Hd.Fn := ⟨fun K => (He.ga K "_law_string_rules"), "_law_string_rules", "_law_string_rules", defArgs s_law_string_rules, defBody s_law_string_rules, defScope s_law_string_rules⟩
abbrev d7 : Hd.Fn := ⟨fun K => (He.ga K "_law_strings_step"), "_law_strings_step", "_law_strings_step", defArgs s_law_strings_step, defBody s_law_strings_step, defScope s_law_strings_step⟩
abbrev d8 : Hd.Fn := ⟨fun K => (He.ga K "_law_pool"), "_law_pool", "_law_pool", defArgs s_law_pool, defBody s_law_pool, defScope s_law_pool⟩
abbrev d9 : Hd.Fn := ⟨fun K => (He.ga K "_law_spread"), "_law_spread", "_law_spread", defArgs s_law_spread, defBody s_law_spread, defScope s_law_spread⟩
abbrev d10 : Hd.Fn := ⟨fun K => (He.ga K "_law_draw"), "_law_draw", "_law_draw", defArgs s_law_draw, defBody s_law_draw, defScope s_law_draw⟩
abbrev d11 : Hd.Fn := ⟨fun K => (He.ga K "_law_some"), "_law_some", "_law_some", defArgs s_law_some, defBody s_law_some, defScope s_law_some⟩
abbrev d12 : Hd.Fn := ⟨fun K => (He.ga K "_law_machine"), "_law_machine", "_law_machine", defArgs s_law_machine, defBody s_law_machine, defScope s_law_machine⟩
abbrev d13 : Hd.Fn := ⟨fun K => (He.ga K "_law_begin"), "_law_begin", "_law_begin", defArgs s_law_begin, defBody s_law_begin, defScope s_law_begin⟩
abbrev d14 : Hd.Fn := ⟨fun K => (He.ga K "law"), "law", "law", defArgs s_law, defBody s_law, defScope s_law⟩
def fnL : List Hd.Fn := [d0, d1, d2, d3, d4, d5, d6, d7, d8, d9, d10, d11, d12, d13, d14]
def supL : List ((PySem.W.Frag → Addr) × Hd.SuV) := []
def kdL : List ((PySem.W.Frag → Addr) × List (Str × Int)) := []
def ex0 (K : PySem.W.Frag) : Bool := decide (PySem.W.nsIn K mainGlobals "Strings" = some (some (.ref (He.ga K "Strings")))) && (decide (PySem.W.nsIn K mainGlobals "LeftSides" = some (some (.ref (He.ga K "LeftSides")))) && (decide (PySem.W.nsIn K mainGlobals "InvalidMachine" = some (some (.ref (He.ga K "InvalidMachine")))) && (decide (PySem.W.nsIn K mainGlobals "BadArgument" = some (some (.ref (He.ga K "BadArgument")))) && (decide (PySem.W.specialIn K (.builtin "object.__class__") "__get__" = some (some (.builtin "getset_descriptor.__get__"))) && (decide (PySem.W.takesIn K (.builtin "object.__class__") = some true) && (decide (PySem.W.plainGet K (He.ga K "Strings") Str.empty = true) && (decide (PySem.W.hasDictIn K (He.ga K "Strings") = true) && (decide (PySem.W.plainOver K (He.ga K "Strings") = true) && (decide (PySem.W.findIn K (.ref (He.ga K "Strings")) "__setattr__" = some (some (.builtin "object.__setattr__"))) && (decide (PySem.W.makesIn K (He.ga K "Strings") = true) && (decide (PySem.W.keepIn K (.ref (He.ga K "Strings")) = true) && (decide (PySem.W.findIn K (.ref (He.ga K "Strings")) "rules" = some none) && (decide (PySem.W.findIn K (.ref (He.ga K "Strings")) "_left_sides" = some none) && (decide (PySem.W.findIn K (.ref (He.ga K "Strings")) "__class__" = some (some (.builtin "object.__class__"))) && (decide (PySem.W.mroIn K (He.ga K "Strings") (.type "object") = some true) && (decide (PySem.W.plainGet K (He.ga K "LeftSides") Str.empty = true) && (decide (PySem.W.hasDictIn K (He.ga K "LeftSides") = true) && (decide (PySem.W.plainOver K (He.ga K "LeftSides") = true) && (decide (PySem.W.findIn K (.ref (He.ga K "LeftSides")) "__setattr__" = some (some (.builtin "object.__setattr__"))) && true)))))))))))))))))))
def ex1 (K : PySem.W.Frag) : Bool := decide (PySem.W.makesIn K (He.ga K "LeftSides") = true) && (decide (PySem.W.keepIn K (.ref (He.ga K "LeftSides")) = true) && (decide (PySem.W.findIn K (.ref (He.ga K "LeftSides")) "_next_nodes" = some none) && (decide (PySem.W.findIn K (.ref (He.ga K "LeftSides")) "_ends" = some none) && (decide (PySem.W.findIn K (.ref (He.ga K "LeftSides")) "_makers" = some none) && (decide (PySem.W.findIn K (.ref (He.ga K "LeftSides")) "__class__" = some (some (.builtin "object.__class__"))) && (decide (PySem.W.mroIn K (He.ga K "LeftSides") (.type "object") = some true) && (decide (PySem.W.keepIn K (.ref (He.ga K "InvalidMachine")) = true) && (decide (PySem.W.excIn K (He.ga K "InvalidMachine") [.type "ValueError", .type "Exception", .type "BaseException", .type "object"] "ValueError.__new__" = true) && (decide (PySem.W.subIn K (.ref (He.ga K "InvalidMachine")) (.type "BaseException") = some true) && (decide (PySem.W.typeIn K (.ref (He.ga K "InvalidMachine")) = some (.type "type")) && (decide (PySem.W.hasDictIn K (He.ga K "InvalidMachine") = true) && (decide (PySem.W.subIn K (.ref (He.ga K "InvalidMachine")) (.ref (He.ga K "InvalidMachine")) = some true) && (decide (PySem.W.findIn K (.ref (He.ga K "InvalidMachine")) "__getattribute__" = some (some (.builtin "BaseException.__getattribute__"))) && (decide (PySem.W.findIn K (.ref (He.ga K "InvalidMachine")) "__getattr__" = some none) && (decide (PySem.W.findIn K (.ref (He.ga K "InvalidMachine")) "__class__" = some (some (.builtin "object.__class__"))) && (decide (PySem.W.mroIn K (He.ga K "InvalidMachine") (.type "object") = some true) && (decide (PySem.W.kitOne K (.ref (He.ga K "InvalidMachine")) (.ref (He.ga K "BadArgument")) = some false) && (decide (PySem.W.findIn K (.ref (He.ga K "LeftSides")) "__init__" = some (some (.ref (He.ma K (He.ga K "LeftSides") "__init__")))) && (decide (PySem.W.isFn K (.ref (He.ma K (He.ga K "LeftSides") "__init__")) = true) && true)))))))))))))))))))
def ex2 (K : PySem.W.Frag) : Bool := decide (PySem.W.keepIn K (.ref (He.ma K (He.ga K "LeftSides") "__init__")) = true) && (decide (PySem.W.findIn K (.ref (He.ga K "LeftSides")) "least_rule" = some (some (.ref (He.ma K (He.ga K "LeftSides") "least_rule")))) && (decide (PySem.W.isFn K (.ref (He.ma K (He.ga K "LeftSides") "least_rule")) = true) && (decide (PySem.W.keepIn K (.ref (He.ma K (He.ga K "LeftSides") "least_rule")) = true) && (decide (PySem.W.findIn K (.ref (He.ga K "Strings")) "__init__" = some (some (.ref (He.ma K (He.ga K "Strings") "__init__")))) && (decide (PySem.W.isFn K (.ref (He.ma K (He.ga K "Strings") "__init__")) = true) && (decide (PySem.W.keepIn K (.ref (He.ma K (He.ga K "Strings") "__init__")) = true) && (decide (PySem.W.findIn K (.ref (He.ga K "Strings")) "__eq__" = some (some (.ref (He.ma K (He.ga K "Strings") "__eq__")))) && (decide (PySem.W.isFn K (.ref (He.ma K (He.ga K "Strings") "__eq__")) = true) && (decide (PySem.W.keepIn K (.ref (He.ma K (He.ga K "Strings") "__eq__")) = true) && (Hd.eqB K (He.ga K "Strings") (He.ma K (He.ga K "Strings") "__eq__") && (decide (PySem.W.findIn K (.ref (He.ga K "Strings")) "step" = some (some (.ref (He.ma K (He.ga K "Strings") "step")))) && (decide (PySem.W.isFn K (.ref (He.ma K (He.ga K "Strings") "step")) = true) && (decide (PySem.W.keepIn K (.ref (He.ma K (He.ga K "Strings") "step")) = true) && (decide (PySem.W.nsIn K mainGlobals "_law_like" = some (some (.ref (He.ga K "_law_like")))) && (decide (PySem.W.keepIn K (.ref (He.ga K "_law_like")) = true) && (decide (PySem.W.nsIn K mainGlobals "_law_string_rules" = some (some (.ref (He.ga K "_law_string_rules")))) && (decide (PySem.W.keepIn K (.ref (He.ga K "_law_string_rules")) = true) && (decide (PySem.W.nsIn K mainGlobals "_law_strings_step" = some (some (.ref (He.ga K "_law_strings_step")))) && (decide (PySem.W.keepIn K (.ref (He.ga K "_law_strings_step")) = true) && true)))))))))))))))))))
def ex3 (K : PySem.W.Frag) : Bool := decide (PySem.W.nsIn K mainGlobals "_law_pool" = some (some (.ref (He.ga K "_law_pool")))) && (decide (PySem.W.keepIn K (.ref (He.ga K "_law_pool")) = true) && (decide (PySem.W.nsIn K mainGlobals "_law_spread" = some (some (.ref (He.ga K "_law_spread")))) && (decide (PySem.W.keepIn K (.ref (He.ga K "_law_spread")) = true) && (decide (PySem.W.nsIn K mainGlobals "_law_draw" = some (some (.ref (He.ga K "_law_draw")))) && (decide (PySem.W.keepIn K (.ref (He.ga K "_law_draw")) = true) && (decide (PySem.W.nsIn K mainGlobals "_law_some" = some (some (.ref (He.ga K "_law_some")))) && (decide (PySem.W.keepIn K (.ref (He.ga K "_law_some")) = true) && (decide (PySem.W.nsIn K mainGlobals "_law_machine" = some (some (.ref (He.ga K "_law_machine")))) && (decide (PySem.W.keepIn K (.ref (He.ga K "_law_machine")) = true) && (decide (PySem.W.nsIn K mainGlobals "_law_begin" = some (some (.ref (He.ga K "_law_begin")))) && (decide (PySem.W.keepIn K (.ref (He.ga K "_law_begin")) = true) && (decide (PySem.W.nsIn K mainGlobals "law" = some (some (.ref (He.ga K "law")))) && (decide (PySem.W.keepIn K (.ref (He.ga K "law")) = true) && (decide (PySem.W.nsIn K mainGlobals "all" = some none) && (decide (PySem.W.nsIn K mainGlobals "bool" = some none) && (decide (PySem.W.nsIn K mainGlobals "enumerate" = some none) && (decide (PySem.W.nsIn K mainGlobals "int" = some none) && (decide (PySem.W.nsIn K mainGlobals "isinstance" = some none) && (decide (PySem.W.nsIn K mainGlobals "len" = some none) && true)))))))))))))))))))
def ex4 (K : PySem.W.Frag) : Bool := decide (PySem.W.nsIn K mainGlobals "list" = some none) && (decide (PySem.W.nsIn K mainGlobals "min" = some none) && (decide (PySem.W.nsIn K mainGlobals "range" = some none) && (decide (PySem.W.nsIn K mainGlobals "str" = some none) && (decide (PySem.W.nsIn K mainGlobals "tuple" = some none) && (Hd.intB K "MOST_RULES" 100000 && true)))))
def exL (K : PySem.W.Frag) : Bool := ex0 K && (ex1 K && (ex2 K && (ex3 K && (ex4 K && true))))
def FA : Hd.Facts := ⟨exL, fnL, supL, kdL⟩
def as_0 : List Addr := [3, 0, 1, 2, 4, 5, 6, 7, 8, 9, 10, 82, 110, 37, 49, 119, 169, 176, 190, 197]
def as_1 : List Addr := [204, 209, 216, 221, 228, 81, 109, 36, 24, 48, 118, 168, 175, 189, 196, 203, 208, 215, 220, 227]
def as_2 : List Addr := [65, 72, 79, 80, 83, 84, 100, 107, 108, 111, 112, 35, 23, 47, 115, 116, 117, 165, 166, 167]
def as_3 : List Addr := [170, 171, 172, 173, 174, 184, 185, 186, 187, 188, 191, 192, 193, 194, 195, 198, 199, 200, 201, 202]
def as_4 : List Addr := [205, 206, 207, 210, 211, 212, 213, 214, 217, 218, 219, 222, 223, 224, 225, 226, 64, 71, 78, 99]
def as_5 : List Addr := [106, 22, 25, 59, 60, 61, 62, 63, 66, 67, 68, 69, 70, 73, 74, 75, 76, 77, 94, 95]
def as_6 : List Addr := [96, 97, 98, 101, 102, 103, 104, 105]
def as_ : List Addr := as_0 ++ as_1 ++ as_2 ++ as_3 ++ as_4 ++ as_5 ++ as_6
def nm_0 : List PySem.Str := ["TranslatoryError", "InvalidMachine", "BadArgument", "MOST_RULES", "Strings", "LeftSides", "_law_like", "_law_strip", "_law_rules", "_law_tape", "_law_instructions", "_law_divisor", "_law_pairs", "_law_productions", "_law_string_rules", "_law_strings_step", "_law_term", "_law_pool", "_law_spread", "_law_draw"]
def nm_1 : List PySem.Str := ["_law_some", "_law_machine", "_law_begin"]
def nm_ : List PySem.Str := nm_0 ++ nm_1
abbrev RR : PySem.W.OpenRow := PySem.W.OpenLaw.row PySem.Challenge.rw_translatory_k09_string_systems
abbrev qv : Program := PySem.W.view RR.prog [26]
theorem run (w : World) : HandSHeadRun.RunEq RR qv (Hd.hook as_ FA) (Hd.ob as_ FA) 2085 nm_ w := by
  intro os
  kernel_rfl
theorem facts {w : World} {K : PySem.W.Frag} {h : Heap} {mg : Str → Option Value} {fa : Addr} (X : K.In h) (G : h.Ns mainGlobals mg) (hfa : mg "law" = some (.ref fa)) (c : Hd.Says FA w K) :
    ∃ fd : FuncData, (∀ (s : Shared) (u : Value), BindsTo s fd ⟨[u], []⟩ [("script", u)]) ∧ ∀ base : Heap, K.In base → base.Ns mainGlobals mg → FnOk PR w K mg base CX0 6 fa fd ["script"] (spLaw K) := by
  have y : exL K = true := c.more
  unfold exL at y
  obtain ⟨y0, y⟩ := He.ba y
  unfold ex0 at y0
  obtain ⟨z0, y0⟩ := He.ba y0
  have g_Strings := of_decide_eq_true z0
  obtain ⟨z1, y0⟩ := He.ba y0
  have g_LeftSides := of_decide_eq_true z1
  obtain ⟨z2, y0⟩ := He.ba y0
  have g_InvalidMachine := of_decide_eq_true z2
  obtain ⟨z3, y0⟩ := He.ba y0
  have g_BadArgument := of_decide_eq_true z3
  obtain ⟨z4, y0⟩ := He.ba y0
  have hn0 := of_decide_eq_true z4
  obtain ⟨z5, y0⟩ := He.ba y0
  have ht0 := of_decide_eq_true z5
  obtain ⟨z6, y0⟩ := He.ba y0
  have pg_Strings := of_decide_eq_true z6
  obtain ⟨z7, y0⟩ := He.ba y0
  have hd_Strings := of_decide_eq_true z7
  obtain ⟨z8, y0⟩ := He.ba y0
  have po_Strings := of_decide_eq_true z8
  obtain ⟨z9, y0⟩ := He.ba y0
  have sa_Strings := of_decide_eq_true z9
  obtain ⟨z10, y0⟩ := He.ba y0
  have mk_Strings := of_decide_eq_true z10
  obtain ⟨z11, y0⟩ := He.ba y0
  have kp_Strings := of_decide_eq_true z11
  obtain ⟨z12, y0⟩ := He.ba y0
  have na_Strings_rules := of_decide_eq_true z12
  obtain ⟨z13, y0⟩ := He.ba y0
  have na_Strings__left_sides := of_decide_eq_true z13
  obtain ⟨z14, y0⟩ := He.ba y0
  have ha_Strings := of_decide_eq_true z14
  obtain ⟨z15, y0⟩ := He.ba y0
  have hm_Strings := of_decide_eq_true z15
  obtain ⟨z16, y0⟩ := He.ba y0
  have pg_LeftSides := of_decide_eq_true z16
  obtain ⟨z17, y0⟩ := He.ba y0
  have hd_LeftSides := of_decide_eq_true z17
  obtain ⟨z18, y0⟩ := He.ba y0
  have po_LeftSides := of_decide_eq_true z18
  obtain ⟨z19, y0⟩ := He.ba y0
  have sa_LeftSides := of_decide_eq_true z19
  obtain ⟨y1, y⟩ := He.ba y
  unfold ex1 at y1
  obtain ⟨z20, y1⟩ := He.ba y1
  have mk_LeftSides := of_decide_eq_true z20
  obtain ⟨z21, y1⟩ := He.ba y1
  have kp_LeftSides := of_decide_eq_true z21
  obtain ⟨z22, y1⟩ := He.ba y1
  have na_LeftSides__next_nodes := of_decide_eq_true z22
  obtain ⟨z23, y1⟩ := He.ba y1
  have na_LeftSides__ends := of_decide_eq_true z23
  obtain ⟨z24, y1⟩ := He.ba y1
  have na_LeftSides__makers := of_decide_eq_true z24
  obtain ⟨z25, y1⟩ := He.ba y1
  have ha_LeftSides := of_decide_eq_true z25
  obtain ⟨z26, y1⟩ := He.ba y1
  have hm_LeftSides := of_decide_eq_true z26
  obtain ⟨z27, y1⟩ := He.ba y1
  have kp_InvalidMachine := of_decide_eq_true z27
  obtain ⟨z28, y1⟩ := He.ba y1
  have ex_InvalidMachine := of_decide_eq_true z28
  obtain ⟨z29, y1⟩ := He.ba y1
  have sb_InvalidMachine := of_decide_eq_true z29
  obtain ⟨z30, y1⟩ := He.ba y1
  have ty_InvalidMachine := of_decide_eq_true z30
  obtain ⟨z31, y1⟩ := He.ba y1
  have hd_InvalidMachine := of_decide_eq_true z31
  obtain ⟨z32, y1⟩ := He.ba y1
  have sf_InvalidMachine := of_decide_eq_true z32
  obtain ⟨z33, y1⟩ := He.ba y1
  have ga_InvalidMachine := of_decide_eq_true z33
  obtain ⟨z34, y1⟩ := He.ba y1
  have gg_InvalidMachine := of_decide_eq_true z34
  obtain ⟨z35, y1⟩ := He.ba y1
  have ha_InvalidMachine := of_decide_eq_true z35
  obtain ⟨z36, y1⟩ := He.ba y1
  have hm_InvalidMachine := of_decide_eq_true z36
  obtain ⟨z37, y1⟩ := He.ba y1
  have kit_k_BA := of_decide_eq_true z37
  obtain ⟨z38, y1⟩ := He.ba y1
  have a0 := of_decide_eq_true z38
  obtain ⟨z39, y1⟩ := He.ba y1
  have n0 := of_decide_eq_true z39
  obtain ⟨y2, y⟩ := He.ba y
  unfold ex2 at y2
  obtain ⟨z40, y2⟩ := He.ba y2
  have k0 := of_decide_eq_true z40
  obtain ⟨z41, y2⟩ := He.ba y2
  have a1 := of_decide_eq_true z41
  obtain ⟨z42, y2⟩ := He.ba y2
  have n1 := of_decide_eq_true z42
  obtain ⟨z43, y2⟩ := He.ba y2
  have k1 := of_decide_eq_true z43
  obtain ⟨z44, y2⟩ := He.ba y2
  have a2 := of_decide_eq_true z44
  obtain ⟨z45, y2⟩ := He.ba y2
  have n2 := of_decide_eq_true z45
  obtain ⟨z46, y2⟩ := He.ba y2
  have k2 := of_decide_eq_true z46
  obtain ⟨z47, y2⟩ := He.ba y2
  have a3 := of_decide_eq_true z47
  obtain ⟨z48, y2⟩ := He.ba y2
  have n3 := of_decide_eq_true z48
  obtain ⟨z49, y2⟩ := He.ba y2
  have k3 := of_decide_eq_true z49
  obtain ⟨z50, y2⟩ := He.ba y2
  obtain ⟨_, _, _, _, _, _, _, _, _, _, _, _, _, _, _, xl3, xn3, xe3, xx3⟩ := Hd.eqB_ok z50
  obtain ⟨z51, y2⟩ := He.ba y2
  have a4 := of_decide_eq_true z51
  obtain ⟨z52, y2⟩ := He.ba y2
  have n4 := of_decide_eq_true z52
  obtain ⟨z53, y2⟩ := He.ba y2
  have k4 := of_decide_eq_true z53
  obtain ⟨z54, y2⟩ := He.ba y2
  have a5 := of_decide_eq_true z54
  obtain ⟨z55, y2⟩ := He.ba y2
  have k5 := of_decide_eq_true z55
  obtain ⟨z56, y2⟩ := He.ba y2
  have a6 := of_decide_eq_true z56
  obtain ⟨z57, y2⟩ := He.ba y2
  have k6 := of_decide_eq_true z57
  obtain ⟨z58, y2⟩ := He.ba y2
  have a7 := of_decide_eq_true z58
  obtain ⟨z59, y2⟩ := He.ba y2
  have k7 := of_decide_eq_true z59
  obtain ⟨y3, y⟩ := He.ba y
  unfold ex3 at y3
  obtain ⟨z60, y3⟩ := He.ba y3
  have a8 := of_decide_eq_true z60
  obtain ⟨z61, y3⟩ := He.ba y3
  have k8 := of_decide_eq_true z61
  obtain ⟨z62, y3⟩ := He.ba y3
  have a9 := of_decide_eq_true z62
  obtain ⟨z63, y3⟩ := He.ba y3
  have k9 := of_decide_eq_true z63
  obtain ⟨z64, y3⟩ := He.ba y3
  have a10 := of_decide_eq_true z64
  obtain ⟨z65, y3⟩ := He.ba y3
  have k10 := of_decide_eq_true z65
  obtain ⟨z66, y3⟩ := He.ba y3
  have a11 := of_decide_eq_true z66
  obtain ⟨z67, y3⟩ := He.ba y3
  have k11 := of_decide_eq_true z67
  obtain ⟨z68, y3⟩ := He.ba y3
  have a12 := of_decide_eq_true z68
  obtain ⟨z69, y3⟩ := He.ba y3
  have k12 := of_decide_eq_true z69
  obtain ⟨z70, y3⟩ := He.ba y3
  have a13 := of_decide_eq_true z70
  obtain ⟨z71, y3⟩ := He.ba y3
  have k13 := of_decide_eq_true z71
  obtain ⟨z72, y3⟩ := He.ba y3
  have a14 := of_decide_eq_true z72
  obtain ⟨z73, y3⟩ := He.ba y3
  have k14 := of_decide_eq_true z73
  obtain ⟨z74, y3⟩ := He.ba y3
  have z_all := of_decide_eq_true z74
  obtain ⟨z75, y3⟩ := He.ba y3
  have z_bool := of_decide_eq_true z75
  obtain ⟨z76, y3⟩ := He.ba y3
  have z_enumerate := of_decide_eq_true z76
  obtain ⟨z77, y3⟩ := He.ba y3
  have z_int := of_decide_eq_true z77
  obtain ⟨z78, y3⟩ := He.ba y3
  have z_isinstance := of_decide_eq_true z78
  obtain ⟨z79, y3⟩ := He.ba y3
  have z_len := of_decide_eq_true z79
  obtain ⟨y4, y⟩ := He.ba y
  unfold ex4 at y4
  obtain ⟨z80, y4⟩ := He.ba y4
  have z_list := of_decide_eq_true z80
  obtain ⟨z81, y4⟩ := He.ba y4
  have z_min := of_decide_eq_true z81
  obtain ⟨z82, y4⟩ := He.ba y4
  have z_range := of_decide_eq_true z82
  obtain ⟨z83, y4⟩ := He.ba y4
  have z_str := of_decide_eq_true z83
  obtain ⟨z84, y4⟩ := He.ba y4
  have z_tuple := of_decide_eq_true z84
  obtain ⟨z85, y4⟩ := He.ba y4
  obtain ⟨t_MOST_RULES, m_MOST_RULES⟩ := Hd.intB_ok z85
  obtain ⟨oc0, od0, sl0, kV0, dc0, pm0, an0, cd0, ct0, l0, c0⟩ := c.def_ 0 (d := d0) rfl
  obtain ⟨oc1, od1, sl1, kV1, dc1, pm1, an1, cd1, ct1, l1, c1⟩ := c.def_ 1 (d := d1) rfl
  obtain ⟨oc2, od2, sl2, kV2, dc2, pm2, an2, cd2, ct2, l2, c2⟩ := c.def_ 2 (d := d2) rfl
  obtain ⟨oc3, od3, sl3, kV3, dc3, pm3, an3, cd3, ct3, l3, c3⟩ := c.def_ 3 (d := d3) rfl
  obtain ⟨oc4, od4, sl4, kV4, dc4, pm4, an4, cd4, ct4, l4, c4⟩ := c.def_ 4 (d := d4) rfl
  obtain ⟨oc5, od5, sl5, kV5, dc5, pm5, an5, cd5, ct5, l5, c5⟩ := c.def_ 5 (d := d5) rfl
  obtain ⟨oc6, od6, sl6, kV6, dc6, pm6, an6, cd6, ct6, l6, c6⟩ := c.def_ 6 (d := d6) rfl
  obtain ⟨oc7, od7, sl7, kV7, dc7, pm7, an7, cd7, ct7, l7, c7⟩ := c.def_ 7 (d := d7) rfl
  obtain ⟨oc8, od8, sl8, kV8, dc8, pm8, an8, cd8, ct8, l8, c8⟩ := c.def_ 8 (d := d8) rfl
  obtain ⟨oc9, od9, sl9, kV9, dc9, pm9, an9, cd9, ct9, l9, c9⟩ := c.def_ 9 (d := d9) rfl
  obtain ⟨oc10, od10, sl10, kV10, dc10, pm10, an10, cd10, ct10, l10, c10⟩ := c.def_ 10 (d := d10) rfl
  obtain ⟨oc11, od11, sl11, kV11, dc11, pm11, an11, cd11, ct11, l11, c11⟩ := c.def_ 11 (d := d11) rfl
  obtain ⟨oc12, od12, sl12, kV12, dc12, pm12, an12, cd12, ct12, l12, c12⟩ := c.def_ 12 (d := d12) rfl
  obtain ⟨oc13, od13, sl13, kV13, dc13, pm13, an13, cd13, ct13, l13, c13⟩ := c.def_ 13 (d := d13) rfl
  obtain ⟨oc14, od14, sl14, kV14, dc14, pm14, an14, cd14, ct14, l14, c14⟩ := c.def_ 14 (d := d14) rfl
  exact all_mk (l := PySem.Challenge.rw_translatory_k09_string_systems) X G hfa g_Strings g_LeftSides g_InvalidMachine g_BadArgument hn0 ht0 pg_Strings hd_Strings po_Strings sa_Strings mk_Strings kp_Strings na_Strings_rules na_Strings__left_sides ha_Strings hm_Strings pg_LeftSides hd_LeftSides po_LeftSides sa_LeftSides mk_LeftSides kp_LeftSides na_LeftSides__next_nodes na_LeftSides__ends na_LeftSides__makers ha_LeftSides hm_LeftSides kp_InvalidMachine ex_InvalidMachine sb_InvalidMachine ty_InvalidMachine hd_InvalidMachine sf_InvalidMachine ga_InvalidMachine gg_InvalidMachine ha_InvalidMachine hm_InvalidMachine kit_k_BA a0 n0 l0 c0 k0 a1 n1 l1 c1 k1 a2 n2 l2 c2 k2 a3 n3 l3 c3 k3 xl3 xn3 xe3 xx3 a4 n4 l4 c4 k4 a5 l5 c5 k5 a6 l6 c6 k6 a7 l7 c7 k7 a8 l8 c8 k8 a9 l9 c9 k9 a10 l10 c10 k10 a11 l11 c11 k11 a12 l12 c12 k12 a13 l13 c13 k13 a14 l14 c14 k14 z_all z_bool z_enumerate z_int z_isinstance z_len z_list z_min z_range z_str z_tuple m_MOST_RULES
end K09
open PySem PySem.W PySem.Calls PyProof.Rows
theorem PySem.Challenge.cw_translatory_k09_string_systems_holds : PySem.Challenge.rw_translatory_k09_string_systems.Holds := by
  w_on; o_law
  refine HandSHeadRun.head_any (r := OpenLaw.row PySem.Challenge.rw_translatory_k09_string_systems) (q := K09.qv) (H := Hd.hook K09.as_ K09.FA) (ob := Hd.ob K09.as_ K09.FA) (M := 2085) (loose := K09.nm_) (d := HandSHeadRun.topDef (OpenLaw.row PySem.Challenge.rw_translatory_k09_string_systems).prog 26) (kwd := []) Hd.ob_eq
    (by kernel_rfl) (fun s => by kernel_rfl) K09.run (by kernel_rfl) (by kernel_rfl) (by kernel_rfl) (by rfl) (by first | assumption | decide +kernel) (by decide +kernel) ⟨rfl, rfl, rfl, rfl, rfl, by decide +kernel⟩ ?hw ?hc
  case hw => w_witness2
  case hc =>
    refine L2.walk_ofE (l := PySem.Challenge.rw_translatory_k09_string_systems) (n := 63) (k := 6) (x := "script") (CX := L2.CX0) rfl (by decide) (by kernel_rfl) ⟨rfl, by decide, by decide⟩ ?F (fun _ _ _ _ z => z)
    intro w mg fa h Y G hmg0
    obtain ⟨K, KX, c⟩ := Y
    have hmg : mg ("law" : PySem.Str) = some (.ref fa) := by
      have e : (HandSHeadRun.topDef (OpenLaw.row PySem.Challenge.rw_translatory_k09_string_systems).prog 26).name = ("law" : PySem.Str) := by kernel_rfl
      rw [← e]
      exact hmg0
    obtain ⟨fd, hb, hF⟩ := K09.facts KX G hmg c
    exact ⟨K, fd, Ly.spLaw K, KX, hb, fun H a ns hl _ hS => ⟨a, ns, rfl, hS, hl, fun _ => rfl⟩, hF⟩
#print axioms PySem.Challenge.cw_translatory_k09_string_systems_holds

