import PyProof.Rows.All
import Wide.All
import OpenK.AllK
import Wide.FinOn
import HandS.ForMost
import HandS.Conv
import HandS.IsInst
import HandS.TupAny
import HandS.WideBits
import HandS.Rev
import HandS.Style
import HandS.Flow
import HandS.Evl
import HandS.Codes
import HandS.ForExc
import HandS.ExcIs
import HandS.OwnEq
import PyProof.InstNe
import KE.KUnpackStar
import KE.DatumOrd
import HandS.Gcd
import HandS.Iter
import HandS.More
import HandS.Wide
import HandS.StrMore
import KE.KDictWalk
import KE.KExcSuper
import HandS.ExcSuper
import HandS.ExcField
import HandS.FStr
import HandS.ExcCtx
import HandS.HotCalls
import PyProof.StrOps2
import KE.DataFind
import HandS.DictComp
import HandS.TupLen
import HandS.TupSets
import HandS.SetBool
import HandS.SetTxt0
import HandS.Star
import HandS.RevRange
import HandS.TryOnly
import HandS.SetKeys
import KE.GoesEnum
import HandS.Zip
import PySem.Challenge.RW_translatory_k89_censuses
import HandS.Head0
import HandS.Head1
import HandS.Head2
import HandS.HeadHook1
import HandS.HeadHook2
import HandS.HeadEnd
import HandS.Head3
set_option Elab.async false
set_option linter.all false
set_option maxRecDepth 100000
set_option maxHeartbeats 2000000
namespace Ly
open PySem L2

/-! ## data -/
inductive Dat where
  | non | bl (b : Bool) | int (i : Int) | str (x : Str) | adr (a : Addr) | tup (xs : List Dat) | lst (xs : List Dat) | obj (C : Addr) (fs : List (Str × Dat)) | dct (es : List (List Key × Dat)) | dcs (es : List (Key × Dat))

mutual
inductive Rep (K : PySem.W.Frag) (G : Hp) : V → Dat → Prop
  | non : Rep K G .non .non
  | bl (b : Bool) : Rep K G (.bl b) (.bl b)
  | int (i : Int) : Rep K G (.int i) (.int i)
  | str (x : Str) : Rep K G (.str x) (.str x)
  | adr (a : Addr) : Rep K G (.ref a) (.adr a)
  | tup {a : Addr} {xs : List V} {ds : List Dat} : SqT K G a xs → Reps K G xs ds → Rep K G (.ref a) (.tup ds)
  | lst {a : Addr} {xs : List V} {ds : List Dat} : SqL K G a xs → Reps K G xs ds → Rep K G (.ref a) (.lst ds)
  | dct {a : Addr} {vs : List (List Key × V)} {es : List (List Key × Dat)} : G a = some (.dT vs) → Dcts K G vs es → Rep K G (.ref a) (.dct es)
  | dcs {a : Addr} {vs : List (Key × V)} {es : List (Key × Dat)} : G a = some (.dK vs) → Dcks K G vs es → Rep K G (.ref a) (.dcs es)
  | obj {a C dx : Addr} {vs : List (Str × V)} {fs : List (Str × Dat)} : G a = some (.ins C dx vs) → Flds K G vs fs → Rep K G (.ref a) (.obj C fs)
inductive Reps (K : PySem.W.Frag) (G : Hp) : List V → List Dat → Prop
  | nil : Reps K G [] []
  | cons {v : V} {vs : List V} {d : Dat} {ds : List Dat} : Rep K G v d → Reps K G vs ds → Reps K G (v :: vs) (d :: ds)
inductive Flds (K : PySem.W.Frag) (G : Hp) : List (Str × V) → List (Str × Dat) → Prop
  | nil : Flds K G [] []
  | cons {f : Str} {v : V} {vs : List (Str × V)} {d : Dat} {ds : List (Str × Dat)} : Rep K G v d → Flds K G vs ds → Flds K G ((f, v) :: vs) ((f, d) :: ds)
/-- a dict with tuples of scalars as keys -/
inductive Dcts (K : PySem.W.Frag) (G : Hp) : List (List Key × V) → List (List Key × Dat) → Prop
  | nil : Dcts K G [] []
  | cons {k : List Key} {v : V} {vs : List (List Key × V)} {d : Dat} {ds : List (List Key × Dat)} : Rep K G v d → Dcts K G vs ds → Dcts K G ((k, v) :: vs) ((k, d) :: ds)
/-- a dict with ints and texts as keys -/
inductive Dcks (K : PySem.W.Frag) (G : Hp) : List (Key × V) → List (Key × Dat) → Prop
  | nil : Dcks K G [] []
  | cons {k : Key} {v : V} {vs : List (Key × V)} {d : Dat} {ds : List (Key × Dat)} : Rep K G v d → Dcks K G vs ds → Dcks K G ((k, v) :: vs) ((k, d) :: ds)
end

def Ex (H H' : Hp) : Prop := ∀ a o, H a = some o → H' a = some o
theorem Ex.refl (H : Hp) : Ex H H := fun _ _ h => h
theorem Ex.trans {H H1 H2 : Hp} (a : Ex H H1) (b : Ex H1 H2) : Ex H H2 := fun x o h => b x o (a x o h)
theorem Ex.new {H : Hp} {p : Addr} {o : HO} (h : H p = none) : Ex H (upd H p o) := fun a u e => by
  rw [upd_ne (ne_of_none e h)]
  exact e
theorem ex_rd {H H' : Hp} {a : Addr} {u : HO} (e : Ex H H') (h : Rd H a u) : Rd H' a u := by
  rcases h with h | ⟨o, h⟩
  · exact Or.inl (e a _ h)
  · exact Or.inr ⟨o, e a _ h⟩
theorem ex_l {K : PySem.W.Frag} {H H' : Hp} {a : Addr} {xs : List V} (e : Ex H H') (h : SqL K H a xs) : SqL K H' a xs := by
  rcases h with h | h
  · exact Or.inl (ex_rd e h)
  · exact Or.inr h
theorem ex_t {K : PySem.W.Frag} {H H' : Hp} {a : Addr} {xs : List V} (e : Ex H H') (h : SqT K H a xs) : SqT K H' a xs := by
  rcases h with h | h
  · exact Or.inl (ex_rd e h)
  · exact Or.inr h
theorem l_of {K : PySem.W.Frag} {H : Hp} {a : Addr} {xs : List V} (h : H a = some (.lst xs)) : SqL K H a xs := Or.inl (Or.inl h)
theorem t_of {K : PySem.W.Frag} {H : Hp} {a : Addr} {xs : List V} (h : H a = some (.tup xs)) : SqT K H a xs := Or.inl (Or.inl h)

section
variable {K : PySem.W.Frag} {G G2 : Hp}
mutual
theorem Rep.mono (e : Ex G G2) : ∀ {v : V} {d : Dat}, Rep K G v d → Rep K G2 v d
  | _, _, .non => .non
  | _, _, .bl b => .bl b
  | _, _, .int i => .int i
  | _, _, .str x => .str x
  | _, _, .adr a => .adr a
  | _, _, .tup h r => .tup (ex_t e h) (Reps.mono e r)
  | _, _, .lst h r => .lst (ex_l e h) (Reps.mono e r)
  | _, _, .obj h r => .obj (e _ _ h) (Flds.mono e r)
  | _, _, .dct h r => .dct (e _ _ h) (Dcts.mono e r)
  | _, _, .dcs h r => .dcs (e _ _ h) (Dcks.mono e r)
theorem Reps.mono (e : Ex G G2) : ∀ {v : List V} {d : List Dat}, Reps K G v d → Reps K G2 v d
  | _, _, .nil => .nil
  | _, _, .cons h r => .cons (Rep.mono e h) (Reps.mono e r)
theorem Flds.mono (e : Ex G G2) : ∀ {v : List (Str × V)} {d : List (Str × Dat)}, Flds K G v d → Flds K G2 v d
  | _, _, .nil => .nil
  | _, _, .cons h r => .cons (Rep.mono e h) (Flds.mono e r)
theorem Dcts.mono (e : Ex G G2) : ∀ {v : List (List Key × V)} {d : List (List Key × Dat)}, Dcts K G v d → Dcts K G2 v d
  | _, _, .nil => .nil
  | _, _, .cons h r => .cons (Rep.mono e h) (Dcts.mono e r)
theorem Dcks.mono (e : Ex G G2) : ∀ {v : List (Key × V)} {d : List (Key × Dat)}, Dcks K G v d → Dcks K G2 v d
  | _, _, .nil => .nil
  | _, _, .cons h r => .cons (Rep.mono e h) (Dcks.mono e r)
end
end

section
variable {K : PySem.W.Frag} {G : Hp} {v : V} {xs ys : List V} {ds es : List Dat} {d : Dat}
theorem Rep.adr_inv {a : Addr} (h : Rep K G v (.adr a)) : v = .ref a := by cases h; rfl
theorem Rep.tup_inv (h : Rep K G v (.tup ds)) : ∃ a xs, v = .ref a ∧ SqT K G a xs ∧ Reps K G xs ds := by
  cases h with
  | tup h r => exact ⟨_, _, rfl, h, r⟩
theorem Rep.lst_inv (h : Rep K G v (.lst ds)) : ∃ a xs, v = .ref a ∧ SqL K G a xs ∧ Reps K G xs ds := by
  cases h with
  | lst h r => exact ⟨_, _, rfl, h, r⟩
theorem Reps.length : ∀ {xs : List V} {ds : List Dat}, Reps K G xs ds → xs.length = ds.length
  | _, _, .nil => rfl
  | _, _, .cons _ r => by rw [List.length_cons, List.length_cons, Reps.length r]
theorem Reps.get : ∀ {xs : List V} {ds : List Dat} {i : Nat} {d : Dat}, Reps K G xs ds → ds[i]? = some d → ∃ v, xs[i]? = some v ∧ Rep K G v d
  | _, _, _, _, .nil, h => by simp at h
  | _, _, 0, _, .cons h _, e => by
    simp at e
    subst e
    exact ⟨_, rfl, h⟩
  | _, _, i + 1, d, .cons _ r, e => by
    obtain ⟨v, h1, h2⟩ := Reps.get (i := i) (d := d) r (by simpa using e)
    exact ⟨v, by simpa using h1, h2⟩
theorem Reps.getV : ∀ {xs : List V} {ds : List Dat} {i : Nat} {v : V}, Reps K G xs ds → xs[i]? = some v → ∃ d, ds[i]? = some d ∧ Rep K G v d
  | _, _, _, _, .nil, h => by simp at h
  | _, _, 0, _, .cons h _, e => by
    simp at e
    subst e
    exact ⟨_, rfl, h⟩
  | _, _, i + 1, d, .cons _ r, e => by
    obtain ⟨v, h1, h2⟩ := Reps.getV (i := i) (v := d) r (by simpa using e)
    exact ⟨v, by simpa using h1, h2⟩
theorem Reps.append : ∀ {xs ys : List V} {ds es : List Dat}, Reps K G xs ds → Reps K G ys es → Reps K G (xs ++ ys) (ds ++ es)
  | _, _, _, _, .nil, s => s
  | _, _, _, _, .cons r t, s => .cons r (Reps.append t s)
theorem Reps.take : ∀ {xs : List V} {us : List Dat} (n : Nat), Reps K G xs us → Reps K G (xs.take n) (us.take n)
  | _, _, 0, _ => .nil
  | _, _, _ + 1, .nil => .nil
  | _, _, n + 1, .cons r t => .cons r (Reps.take n t)
theorem Reps.drop : ∀ {xs : List V} {us : List Dat} (n : Nat), Reps K G xs us → Reps K G (xs.drop n) (us.drop n)
  | _, _, 0, r => r
  | _, _, _ + 1, .nil => .nil
  | _, _, n + 1, .cons _ t => Reps.drop n t
theorem Reps.reverse : ∀ {xs : List V} {us : List Dat}, Reps K G xs us → Reps K G xs.reverse us.reverse
  | _, _, .nil => .nil
  | _, _, .cons r t => by
    rw [List.reverse_cons, List.reverse_cons]
    exact Reps.append (Reps.reverse t) (.cons r .nil)
theorem Reps.ints : ∀ {xs : List V} {ns : List Int}, Reps K G xs (ns.map Dat.int) → xs = ns.map V.int
  | _, [], h => by
    cases h
    rfl
  | _, n :: ns, h => by
    cases h with
    | cons h r =>
      cases h
      rw [Reps.ints (ns := ns) r]
      rfl
theorem Reps.of_ints : ∀ (ns : List Int), Reps K G (ns.map V.int) (ns.map Dat.int)
  | [] => .nil
  | n :: ns => .cons (.int n) (Reps.of_ints ns)
theorem Reps.set {v : V} {d : Dat} (h : Rep K G v d) : ∀ {xs : List V} {us : List Dat} (n : Nat), Reps K G xs us → Reps K G (xs.set n v) (us.set n d)
  | _, _, _, .nil => .nil
  | _, _, 0, .cons _ t => .cons h t
  | _, _, n + 1, .cons r t => .cons r (Reps.set h n t)
theorem Flds.get : ∀ {vs : List (Str × V)} {fs : List (Str × Dat)} {f : Str} {d : Dat}, Flds K G vs fs → fs.lookup f = some d → ∃ v, vs.lookup f = some v ∧ Rep K G v d
  | _, _, _, _, .nil, h => by simp at h
  | _, _, f, d, .cons (f := g) h r, e => by
    rw [List.lookup_cons] at e ⊢
    by_cases q : (f == g) = true
    · rw [q] at e ⊢
      simp at e
      subst e
      exact ⟨_, rfl, h⟩
    · have q : (f == g) = false := by simpa using q
      rw [q] at e ⊢
      exact Flds.get r e
end

/-! ## worlds -/
structure Wd where
  m : Addr → Prop
  I : Hp → Prop
  loc : ∀ {H H2 : Hp}, I H → (∀ a, m a → H2 a = H a) → I H2
  tr : ∀ {H : Hp} {a : Addr}, I H → m a → ∃ o, H a = some o
theorem Wd.st (W : Wd) {H H2 : Hp} (h : W.I H) (e : Ex H H2) : W.I H2 := W.loc h fun a ha => by
  obtain ⟨o, ho⟩ := W.tr h ha
  rw [ho]
  exact e a o ho
def Wd0 : Wd := ⟨fun _ => False, fun _ => True, fun _ _ => trivial, fun _ h => h.elim⟩
structure Ok (W : Wd) (G H : Hp) : Prop where
  ex : Ex G H
  inv : W.I H
  off : ∀ a, W.m a → G a = none
structure Stp (W : Wd) (G H G2 H2 : Hp) : Prop where
  gg : Ex G G2
  gh : Ex G2 H2
  hh : ∀ a o, ¬ W.m a → H a = some o → H2 a = some o
  nw : ∀ a o, G2 a = some o → G a = some o ∨ H a = none
  inv : W.I H2
section
variable {W : Wd} {G H G2 H2 G3 H3 : Hp}
theorem Stp.ok (k : Ok W G H) (s : Stp W G H G2 H2) : Ok W G2 H2 := ⟨s.gh, s.inv, fun a ha => by
  cases e : G2 a with
  | none => rfl
  | some o =>
    rcases s.nw a o e with h | h
    · rw [k.off a ha] at h
      cases h
    · obtain ⟨u, hu⟩ := W.tr k.inv ha
      rw [hu] at h
      cases h⟩
theorem Stp.refl (k : Ok W G H) : Stp W G H G H := ⟨Ex.refl _, k.ex, fun _ _ _ h => h, fun _ _ h => .inl h, k.inv⟩
theorem Stp.trans (s : Stp W G H G2 H2) (t : Stp W G2 H2 G3 H3) : Stp W G H G3 H3 := by
  refine ⟨s.gg.trans t.gg, t.gh, fun a o hm h => t.hh a o hm (s.hh a o hm h), fun a o h => ?_, t.inv⟩
  rcases t.nw a o h with h | h
  · exact s.nw a o h
  · right
    cases e : H a with
    | none => rfl
    | some u =>
      by_cases hm : W.m a
      · obtain ⟨z, hz⟩ := W.tr s.inv hm
        rw [hz] at h
        cases h
      · rw [s.hh a u hm e] at h
        cases h
/-- the heap alone grows -/
theorem Stp.grow (k : Ok W G H) (e : Ex H H2) : Stp W G H G H2 := ⟨Ex.refl _, k.ex.trans e, fun a o _ h => e a o h, fun _ _ h => .inl h, W.st k.inv e⟩
/-- a new object is known from now on -/
theorem Stp.new (k : Ok W G H) {p : Addr} {o : HO} (hp : H p = none) : Stp W G H (upd G p o) (upd H p o) := by
  have gp : G p = none := by
    cases e : G p with
    | none => rfl
    | some u =>
      rw [k.ex p u e] at hp
      cases hp
  refine ⟨Ex.new gp, fun a u h => ?_, fun a u _ h => Ex.new hp a u h, fun a u h => ?_, W.st k.inv (Ex.new hp)⟩
  · by_cases e : a = p
    · subst e
      rw [upd_same] at h ⊢
      exact h
    · rw [upd_ne e] at h ⊢
      exact k.ex a u h
  · by_cases e : a = p
    · subst e
      exact .inr hp
    · rw [upd_ne e] at h
      exact .inl h
theorem Ok.pure (k : Ok W G H) : Ok Wd0 G H := ⟨k.ex, trivial, fun _ h => h.elim⟩
theorem Stp.of0 (k : Ok W G H) (s : Stp Wd0 G H G2 H2) : Stp W G H G2 H2 := ⟨s.gg, s.gh, fun a o _ h => s.hh a o (fun z => z) h, s.nw, W.st k.inv fun a o h => s.hh a o (fun z => z) h⟩
theorem Stp.ex0 (s : Stp Wd0 G H G2 H2) : Ex H H2 := fun a o h => s.hh a o (fun z => z) h
end

/-! ## the slots by data -/
structure Env (K : PySem.W.Frag) (G : Hp) (σ : L2.St) (Γ : List (Option Dat)) : Prop where
  len : σ.length = Γ.length
  at' : ∀ (i : Nat) (d : Dat), Γ[i]? = some (some d) → ∃ v, σ[i]? = some (some v) ∧ Rep K G v d
section
variable {K : PySem.W.Frag} {G G2 : Hp} {σ : L2.St} {Γ Γ' : List (Option Dat)}
theorem Env.mono (e : Ex G G2) (h : Env K G σ Γ) : Env K G2 σ Γ := ⟨h.len, fun i d q => by
  obtain ⟨v, h1, h2⟩ := h.at' i d q
  exact ⟨v, h1, h2.mono e⟩⟩
theorem Env.set {i : Nat} {v : V} {d : Dat} (h : Env K G σ Γ) (r : Rep K G v d) : Env K G (σ.set i (some v)) (Γ.set i (some d)) := by
  refine ⟨by rw [List.length_set, List.length_set, h.len], fun j u q => ?_⟩
  by_cases hij : i = j
  · subst hij
    by_cases hl : i < Γ.length
    · rw [List.getElem?_set_self hl] at q
      have e : d = u := Option.some.inj (Option.some.inj q)
      subst e
      exact ⟨v, List.getElem?_set_self (by rw [h.len]; exact hl), r⟩
    · rw [List.getElem?_eq_none (by rw [List.length_set]; omega)] at q
      cases q
  · rw [List.getElem?_set_ne hij] at q ⊢
    exact h.at' j u q
inductive Wk : List (Option Dat) → List (Option Dat) → Prop
  | nil : Wk [] []
  | keep {a : Option Dat} {Γ Γ' : List (Option Dat)} : Wk Γ Γ' → Wk (a :: Γ) (a :: Γ')
  | drop {a : Option Dat} {Γ Γ' : List (Option Dat)} : Wk Γ Γ' → Wk (a :: Γ) (none :: Γ')
theorem Wk.refl : ∀ (Γ : List (Option Dat)), Wk Γ Γ
  | [] => .nil
  | _ :: Γ => .keep (Wk.refl Γ)
theorem Wk.length : ∀ {Γ Γ' : List (Option Dat)}, Wk Γ Γ' → Γ.length = Γ'.length
  | _, _, .nil => rfl
  | _, _, .keep h => by rw [List.length_cons, List.length_cons, Wk.length h]
  | _, _, .drop h => by rw [List.length_cons, List.length_cons, Wk.length h]
theorem Wk.get : ∀ {Γ Γ' : List (Option Dat)} {i : Nat} {d : Dat}, Wk Γ Γ' → Γ'[i]? = some (some d) → Γ[i]? = some (some d)
  | _, _, _, _, .nil, h => h
  | _, _, 0, _, .keep _, h => h
  | _, _, _ + 1, _, .keep w, h => by
    rw [List.getElem?_cons_succ] at h ⊢
    exact Wk.get w h
  | _, _, 0, _, .drop _, h => by
    simp at h
  | _, _, _ + 1, _, .drop w, h => by
    rw [List.getElem?_cons_succ] at h ⊢
    exact Wk.get w h
theorem Env.weak (w : Wk Γ Γ') (h : Env K G σ Γ) : Env K G σ Γ' := ⟨h.len.trans w.length, fun i d q => h.at' i d (w.get q)⟩
def wipeG (Γ : List (Option Dat)) : List Nat → List (Option Dat)
  | [] => Γ
  | v :: vs => (wipeG Γ vs).set v none
theorem Env.none {i : Nat} (h : Env K G σ Γ) : Env K G (σ.set i Option.none) (Γ.set i Option.none) := by
  refine ⟨by rw [List.length_set, List.length_set, h.len], fun j u q => ?_⟩
  by_cases hij : i = j
  · subst hij
    by_cases hl : i < Γ.length
    · rw [List.getElem?_set_self hl] at q
      cases q
    · rw [List.getElem?_eq_none (by rw [List.length_set]; omega)] at q
      cases q
  · rw [List.getElem?_set_ne hij] at q ⊢
    exact h.at' j u q
theorem Env.wipe (h : Env K G σ Γ) : ∀ vs : List Nat, Env K G (L2.wipe σ vs) (wipeG Γ vs)
  | [] => h
  | v :: vs => (Env.wipe h vs).none
theorem env_start {N : List Str} {vs : List V} {ds : List Dat} (r : Reps K G vs ds) : Env K G (L2.start N vs) (ds.map some ++ List.replicate (N.length - ds.length) Option.none) := by
  have hl := r.length
  refine ⟨by unfold L2.start; simp [hl], fun i d q => ?_⟩
  unfold L2.start
  by_cases hi : i < ds.length
  · rw [List.getElem?_append_left (by simpa using hi), List.getElem?_map] at q
    cases e : ds[i]? with
    | none =>
      rw [e] at q
      cases q
    | some u =>
      rw [e] at q
      have e2 : u = d := Option.some.inj (Option.some.inj q)
      subst e2
      obtain ⟨v, h1, h2⟩ := r.get e
      refine ⟨v, ?_, h2⟩
      rw [List.getElem?_append_left (by rw [List.length_map, hl]; exact hi), List.getElem?_map, h1]
      rfl
  · rw [List.getElem?_append_right (by simpa using hi), List.getElem?_replicate] at q
    split at q <;> cases q
end
end Ly

set_option maxHeartbeats 2000000
namespace Ly
open PySem L2

/-! ## what expressions come to -/
/-- what is wanted of a value that is one of P -/
abbrev Go (W : Wd) (K : PySem.W.Frag) (G H : Hp) (P : Dat → Prop) (Q : VK) : Prop := ∀ v d G2 H2, Stp W G H G2 H2 → P d → Rep K G2 v d → Q v H2
def Ev (W : Wd) (K : PySem.W.Frag) (te : TE) (Γ : List (Option Dat)) (P : Dat → Prop) : Prop := ∀ σ G H, Env K G σ Γ → Ok W G H → ∀ Q : VK, Go W K G H P Q → te σ H Q
abbrev EvX (W : Wd) (K : PySem.W.Frag) (te : TE) (Γ : List (Option Dat)) (d : Dat) : Prop := Ev W K te Γ (· = d)
def EvB (W : Wd) (K : PySem.W.Frag) (tt : TT) (Γ : List (Option Dat)) (P : Bool → Prop) : Prop := ∀ σ G H, Env K G σ Γ → Ok W G H → ∀ Q : Bool → Hp → Prop, (∀ b G2 H2, Stp W G H G2 H2 → P b → Q b H2) → tt σ H Q
abbrev EvBX (W : Wd) (K : PySem.W.Frag) (tt : TT) (Γ : List (Option Dat)) (b : Bool) : Prop := EvB W K tt Γ (· = b)
def EvA (W : Wd) (K : PySem.W.Frag) (ta : TA) (Γ : List (Option Dat)) (P : List Dat → Prop) : Prop := ∀ σ G H, Env K G σ Γ → Ok W G H → ∀ Q : List V → Hp → Prop, (∀ vs ds G2 H2, Stp W G H G2 H2 → P ds → Reps K G2 vs ds → Q vs H2) → ta σ H Q
abbrev EvAX (W : Wd) (K : PySem.W.Frag) (ta : TA) (Γ : List (Option Dat)) (ds : List Dat) : Prop := EvA W K ta Γ (· = ds)
def EvO (W : Wd) (K : PySem.W.Frag) (to : TO) (Γ : List (Option Dat)) (P : Option Int → Prop) : Prop := ∀ σ G H, Env K G σ Γ → Ok W G H → ∀ Q : Option Int → Hp → Prop, (∀ o G2 H2, Stp W G H G2 H2 → P o → Q o H2) → to σ H Q
/-- a new list -/
def EvN (W : Wd) (K : PySem.W.Frag) (te : TE) (Γ : List (Option Dat)) (P : List Dat → Prop) : Prop := ∀ σ G H, Env K G σ Γ → Ok W G H → ∀ Q : VK, (∀ p xs ds G2 H2, Stp W G H G2 H2 → H p = none → G2 p = none → H2 p = some (.lst xs) → Reps K G2 xs ds → P ds → Q (.ref p) H2) → te σ H Q
/-- operations by values -/
def RV (W : Wd) (K : PySem.W.Frag) (r : R2) (a b : Dat) (P : Dat → Prop) : Prop := ∀ G H x y, Ok W G H → Rep K G x a → Rep K G y b → ∀ Q : VK, Go W K G H P Q → r x y H Q
def RU (W : Wd) (K : PySem.W.Frag) (r : V → Hp → VK → Prop) (a : Dat) (P : Dat → Prop) : Prop := ∀ G H x, Ok W G H → Rep K G x a → ∀ Q : VK, Go W K G H P Q → r x H Q
def RC (W : Wd) (K : PySem.W.Frag) (r : List V → Hp → VK → Prop) (ds : List Dat) (P : Dat → Prop) : Prop := ∀ G H xs, Ok W G H → Reps K G xs ds → ∀ Q : VK, Go W K G H P Q → r xs H Q

section
variable {W : Wd} {K : PySem.W.Frag} {Γ : List (Option Dat)} {ta tb tc te : TE} {tt tu : TT} {tA : TA} {P R S : Dat → Prop} {a b d e : Dat} {G H G2 H2 : Hp}
theorem Go.here {Q : VK} {v : V} (q : Go W K G H P Q) (k : Ok W G H) (r : Rep K G v d) (p : P d) : Q v H := q v d G H (Stp.refl k) p r
theorem Go.step {Q : VK} (q : Go W K G H P Q) (s : Stp W G H G2 H2) : Go W K G2 H2 P Q := fun v d G3 H3 t p r => q v d G3 H3 (s.trans t) p r
theorem Ev.imp (h : Ev W K te Γ P) (i : ∀ d, P d → R d) : Ev W K te Γ R := fun σ G H n k Q q => h σ G H n k Q fun v d G2 H2 s p r => q v d G2 H2 s (i d p) r
theorem EvB.imp {P R : Bool → Prop} (h : EvB W K tt Γ P) (i : ∀ d, P d → R d) : EvB W K tt Γ R := fun σ G H n k Q q => h σ G H n k Q fun b G2 H2 s p => q b G2 H2 s (i b p)
theorem EvX.to (h : EvX W K te Γ a) (i : a = b) : EvX W K te Γ b := i ▸ h
theorem EvX.any (h : EvX W K te Γ a) (i : P a) : Ev W K te Γ P := h.imp fun d e => e ▸ i
theorem EvBX.to {a b : Bool} (h : EvBX W K tt Γ a) (i : a = b) : EvBX W K tt Γ b := i ▸ h

theorem v_var {i : Nat} (h : Γ[i]? = some (some d)) : EvX W K (tVar i) Γ d := fun σ G H n k Q q => by
  obtain ⟨v, h1, h2⟩ := n.at' i d h
  exact ⟨v, h1, q.here k h2 rfl⟩
theorem v_int {i : Int} : EvX W K (tC (.int i)) Γ (.int i) := fun σ G H n k Q q => q.here k (.int i) rfl
theorem v_bl {b : Bool} : EvX W K (tC (.bl b)) Γ (.bl b) := fun σ G H n k Q q => q.here k (.bl b) rfl
theorem v_str {x : Str} : EvX W K (tC (.str x)) Γ (.str x) := fun σ G H n k Q q => q.here k (.str x) rfl
theorem v_non : EvX W K (tC .non) Γ .non := fun σ G H n k Q q => q.here k .non rfl
theorem v_op {r : R2} (ha : Ev W K ta Γ P) (hb : Ev W K tb Γ R) (hr : ∀ a b, P a → R b → RV W K r a b S) : Ev W K (tOp r ta tb) Γ S := fun σ G H n k Q q =>
  ha σ G H n k _ fun x dx G2 H2 s px rx => hb σ G2 H2 (n.mono s.gg) (s.ok k) _ fun y dy G3 H3 t py ry =>
    hr dx dy px py G3 H3 x y (t.ok (s.ok k)) (rx.mono t.gg) ry Q (q.step (s.trans t))
theorem v_opx {r : R2} (ha : EvX W K ta Γ a) (hb : EvX W K tb Γ b) (hr : RV W K r a b S) : Ev W K (tOp r ta tb) Γ S := v_op ha hb fun x y hx hy => by
  subst hx hy
  exact hr
theorem v_un {r : V → Hp → VK → Prop} (ha : Ev W K ta Γ P) (hr : ∀ a, P a → RU W K r a S) : Ev W K (tUn r ta) Γ S := fun σ G H n k Q q =>
  ha σ G H n k _ fun x dx G2 H2 s px rx => hr dx px G2 H2 x (s.ok k) rx Q (q.step s)
theorem v_neg {i : Int} (ha : EvX W K ta Γ (.int i)) : EvX W K (tUn (rU fun i => .int (-i)) ta) Γ (.int (-i)) := v_un ha fun d e => by
  subst e
  intro G H x k r Q q
  cases r
  exact ⟨i, rfl, q.here k (.int _) rfl⟩
/-! by values -/
theorem rv_I0 {g : Int → Int → Dat} {g' : Int → Int → V} {i j : Int} (hg : ∀ G, Rep K G (g' i j) (g i j)) : RV W K (rI0 g') (.int i) (.int j) (· = g i j) := fun G H x y k rx ry Q q => by
  cases rx
  cases ry
  exact ⟨i, j, rfl, rfl, q.here k (hg G) rfl⟩
theorem rv_I {C : Int → Int → Prop} {g : Int → Int → Dat} {g' : Int → Int → V} {i j : Int} (hg : ∀ G, Rep K G (g' i j) (g i j)) (hc : C i j) : RV W K (rI C g') (.int i) (.int j) (· = g i j) := fun G H x y k rx ry Q q => by
  cases rx
  cases ry
  exact ⟨i, j, rfl, rfl, hc, q.here k (hg G) rfl⟩
theorem v_add {i j : Int} (ha : EvX W K ta Γ (.int i)) (hb : EvX W K tb Γ (.int j)) : EvX W K (tOp (rI0 fun i j => .int (i + j)) ta tb) Γ (.int (i + j)) := v_opx ha hb (rv_I0 (g := fun i j => .int (i + j)) fun _ => .int _)
theorem v_sub {i j : Int} (ha : EvX W K ta Γ (.int i)) (hb : EvX W K tb Γ (.int j)) : EvX W K (tOp (rI0 fun i j => .int (i - j)) ta tb) Γ (.int (i - j)) := v_opx ha hb (rv_I0 (g := fun i j => .int (i - j)) fun _ => .int _)
theorem v_mul {i j : Int} (ha : EvX W K ta Γ (.int i)) (hb : EvX W K tb Γ (.int j)) (hc : CMul i j) : EvX W K (tOp (rI CMul fun i j => .int (i * j)) ta tb) Γ (.int (i * j)) := v_opx ha hb (rv_I (g := fun i j => .int (i * j)) (fun _ => .int _) hc)
theorem v_fdiv {i j : Int} (ha : EvX W K ta Γ (.int i)) (hb : EvX W K tb Γ (.int j)) (hc : CDiv i j) : EvX W K (tOp (rI CDiv fun i j => .int (i / j)) ta tb) Γ (.int (i / j)) := v_opx ha hb (rv_I (g := fun i j => .int (i / j)) (fun _ => .int _) hc)
theorem v_mod {i j : Int} (ha : EvX W K ta Γ (.int i)) (hb : EvX W K tb Γ (.int j)) (hc : 0 < j) : EvX W K (tOp (rI (fun _ j => 0 < j) fun i j => .int (i % j)) ta tb) Γ (.int (i % j)) := v_opx ha hb (rv_I (C := fun _ j => 0 < j) (g := fun i j => .int (i % j)) (fun _ => .int _) hc)
theorem v_lt {i j : Int} (ha : EvX W K ta Γ (.int i)) (hb : EvX W K tb Γ (.int j)) : EvX W K (tOp (rI0 fun i j => .bl (decide (i < j))) ta tb) Γ (.bl (decide (i < j))) := v_opx ha hb (rv_I0 (g := fun i j => .bl (decide (i < j))) fun _ => .bl _)
theorem v_le {i j : Int} (ha : EvX W K ta Γ (.int i)) (hb : EvX W K tb Γ (.int j)) : EvX W K (tOp (rI0 fun i j => .bl (decide (i ≤ j))) ta tb) Γ (.bl (decide (i ≤ j))) := v_opx ha hb (rv_I0 (g := fun i j => .bl (decide (i ≤ j))) fun _ => .bl _)
theorem v_gt {i j : Int} (ha : EvX W K ta Γ (.int i)) (hb : EvX W K tb Γ (.int j)) : EvX W K (tOp (rI0 fun i j => .bl (decide (j < i))) ta tb) Γ (.bl (decide (j < i))) := v_opx ha hb (rv_I0 (g := fun i j => .bl (decide (j < i))) fun _ => .bl _)
theorem v_ge {i j : Int} (ha : EvX W K ta Γ (.int i)) (hb : EvX W K tb Γ (.int j)) : EvX W K (tOp (rI0 fun i j => .bl (decide (j ≤ i))) ta tb) Γ (.bl (decide (j ≤ i))) := v_opx ha hb (rv_I0 (g := fun i j => .bl (decide (j ≤ i))) fun _ => .bl _)
/-- == of scalars by data -/
def sd : Dat → V
  | .non => .non | .bl b => .bl b | .int i => .int i | .str x => .str x | .adr a => .ref a | _ => .non
def issd : Dat → Bool
  | .non => true | .bl _ => true | .int _ => true | .str _ => true | _ => false
theorem sd_rep {v : V} {d : Dat} (h : issd d = true) (r : Rep K G v d) : v = sd d := by
  cases r <;> first | rfl | cases h
theorem rv_eq (h1 : issd a = true) (h2 : issd b = true) (hs : scal (sd a) (sd b) = true) : RV W K rEq a b (· = .bl (decide (sd a = sd b))) := fun G H x y k rx ry Q q => by
  have e1 := sd_rep h1 rx
  have e2 := sd_rep h2 ry
  subst e1 e2
  exact ⟨hs, q.here k (.bl _) rfl⟩
theorem rv_ne (h1 : issd a = true) (h2 : issd b = true) (hs : scal (sd a) (sd b) = true) : RV W K rNe a b (· = .bl (!decide (sd a = sd b))) := fun G H x y k rx ry Q q => by
  have e1 := sd_rep h1 rx
  have e2 := sd_rep h2 ry
  subst e1 e2
  exact ⟨hs, q.here k (.bl _) rfl⟩
theorem v_eqI {i j : Int} (ha : EvX W K ta Γ (.int i)) (hb : EvX W K tb Γ (.int j)) : EvX W K (tOp rEq ta tb) Γ (.bl (decide (i = j))) := by
  have h := v_opx ha hb (rv_eq (W := W) (K := K) (a := .int i) (b := .int j) rfl rfl rfl)
  have e : decide (sd (.int i) = sd (.int j)) = decide (i = j) := by
    show decide (V.int i = V.int j) = decide (i = j)
    by_cases q : i = j
    · subst q; simp
    · rw [decide_eq_false q, decide_eq_false (fun z => q (V.int.inj z))]
  rw [e] at h
  exact h
theorem v_neI {i j : Int} (ha : EvX W K ta Γ (.int i)) (hb : EvX W K tb Γ (.int j)) : EvX W K (tOp rNe ta tb) Γ (.bl (!decide (i = j))) := by
  have h := v_opx ha hb (rv_ne (W := W) (K := K) (a := .int i) (b := .int j) rfl rfl rfl)
  have e : decide (sd (.int i) = sd (.int j)) = decide (i = j) := by
    show decide (V.int i = V.int j) = decide (i = j)
    by_cases q : i = j
    · subst q; simp
    · rw [decide_eq_false q, decide_eq_false (fun z => q (V.int.inj z))]
  rw [e] at h
  exact h
theorem v_eqS {i j : Str} (ha : EvX W K ta Γ (.str i)) (hb : EvX W K tb Γ (.str j)) : EvX W K (tOp rEq ta tb) Γ (.bl (decide (i = j))) := by
  have h := v_opx ha hb (rv_eq (W := W) (K := K) (a := .str i) (b := .str j) rfl rfl rfl)
  have e : decide (sd (.str i) = sd (.str j)) = decide (i = j) := by
    show decide (V.str i = V.str j) = decide (i = j)
    by_cases q : i = j
    · subst q; simp
    · rw [decide_eq_false q, decide_eq_false (fun z => q (V.str.inj z))]
  rw [e] at h
  exact h
theorem v_eqB {i j : Bool} (ha : EvX W K ta Γ (.bl i)) (hb : EvX W K tb Γ (.bl j)) : EvX W K (tOp rEq ta tb) Γ (.bl (decide (i = j))) := by
  have h := v_opx ha hb (rv_eq (W := W) (K := K) (a := .bl i) (b := .bl j) rfl rfl rfl)
  have e : decide (sd (.bl i) = sd (.bl j)) = decide (i = j) := by
    show decide (V.bl i = V.bl j) = decide (i = j)
    by_cases q : i = j
    · subst q; simp
    · rw [decide_eq_false q, decide_eq_false (fun z => q (V.bl.inj z))]
  rw [e] at h
  exact h
theorem v_neB {i j : Bool} (ha : EvX W K ta Γ (.bl i)) (hb : EvX W K tb Γ (.bl j)) : EvX W K (tOp rNe ta tb) Γ (.bl (!decide (i = j))) := by
  have h := v_opx ha hb (rv_ne (W := W) (K := K) (a := .bl i) (b := .bl j) rfl rfl rfl)
  have e : decide (sd (.bl i) = sd (.bl j)) = decide (i = j) := by
    show decide (V.bl i = V.bl j) = decide (i = j)
    by_cases q : i = j
    · subst q; simp
    · rw [decide_eq_false q, decide_eq_false (fun z => q (V.bl.inj z))]
  rw [e] at h
  exact h
def isN : Dat → Bool
  | .non => true
  | _ => false
theorem v_isN (ha : Ev W K ta Γ P) (hp : ∀ d, P d → S (.bl (isN d))) : Ev W K (tIsN ta) Γ S := fun σ G H n k Q q =>
  ha σ G H n k _ fun x dx G2 H2 s px rx => by
    have e : decide (x = .non) = isN dx := by cases rx <;> rfl
    show Q (.bl (decide (x = .non))) H2
    rw [e]
    exact (q.step s).here (s.ok k) (.bl _) (hp dx px)
theorem v_isNx (ha : EvX W K ta Γ a) : EvX W K (tIsN ta) Γ (.bl (isN a)) := v_isN ha fun d e => by subst e; rfl
theorem v_notNx (ha : EvX W K ta Γ a) : EvX W K (tNotN ta) Γ (.bl (!(isN a))) := fun σ G H n k Q q =>
  ha σ G H n k _ fun x dx G2 H2 s px rx => by
    subst px
    have e : decide (x = .non) = isN dx := by cases rx <;> rfl
    show Q (.bl (!decide (x = .non))) H2
    rw [e]
    exact (q.step s).here (s.ok k) (.bl _) rfl

/-! ## tests -/
theorem b_test {P : Bool → Prop} (h : Ev W K te Γ fun d => ∃ b, d = .bl b ∧ P b) : EvB W K (tTest te) Γ P := fun σ G H n k Q q => h σ G H n k _ fun v d G2 H2 s ⟨b, e, p⟩ r => by
  subst e
  cases r
  exact ⟨b, rfl, q b G2 H2 s p⟩
theorem b_testx {b : Bool} (h : EvX W K te Γ (.bl b)) : EvBX W K (tTest te) Γ b := b_test (h.imp fun d e => ⟨b, e, rfl⟩)
theorem b_B {P : Bool → Prop} (h : Ev W K te Γ fun d => ∃ b, d = .bl b ∧ P b) : EvB W K (tB te) Γ P := fun σ G H n k Q q => h σ G H n k _ fun v d G2 H2 s ⟨b, e, p⟩ r => by
  subst e
  cases r
  exact ⟨b, rfl, q b G2 H2 s p⟩
theorem b_Bx {b : Bool} (h : EvX W K te Γ (.bl b)) : EvBX W K (tB te) Γ b := b_B (h.imp fun d e => ⟨b, e, rfl⟩)
theorem b_and {P R S : Bool → Prop} (h1 : EvB W K tt Γ P) (h2 : P true → EvB W K tu Γ R) (i : P false → S false) (j : ∀ b, R b → S b) : EvB W K (tAnd tt tu) Γ S := fun σ G H n k Q q =>
  h1 σ G H n k _ fun c G2 H2 s p => by
    cases c with
    | true =>
      show tu σ H2 Q
      exact h2 p σ G2 H2 (n.mono s.gg) (s.ok k) Q fun b G3 H3 t r => q b G3 H3 (s.trans t) (j b r)
    | false =>
      show Q false H2
      exact q false G2 H2 s (i p)
theorem b_andx {a b : Bool} (h1 : EvBX W K tt Γ a) (h2 : a = true → EvBX W K tu Γ b) : EvBX W K (tAnd tt tu) Γ (a && b) := by
  cases a with
  | true => exact b_and h1 (fun _ => h2 rfl) (fun e => nomatch e) (fun c e => e)
  | false => exact b_and (R := fun _ => False) h1 (fun e => nomatch e) (fun _ => rfl) (fun c e => e.elim)
theorem b_or {P R S : Bool → Prop} (h1 : EvB W K tt Γ P) (h2 : P false → EvB W K tu Γ R) (i : P true → S true) (j : ∀ b, R b → S b) : EvB W K (tOr tt tu) Γ S := fun σ G H n k Q q =>
  h1 σ G H n k _ fun c G2 H2 s p => by
    cases c with
    | false =>
      show tu σ H2 Q
      exact h2 p σ G2 H2 (n.mono s.gg) (s.ok k) Q fun b G3 H3 t r => q b G3 H3 (s.trans t) (j b r)
    | true =>
      show Q true H2
      exact q true G2 H2 s (i p)
theorem b_orx {a b : Bool} (h1 : EvBX W K tt Γ a) (h2 : a = false → EvBX W K tu Γ b) : EvBX W K (tOr tt tu) Γ (a || b) := by
  cases a with
  | false => exact b_or h1 (fun _ => h2 rfl) (fun e => nomatch e) (fun c e => e)
  | true => exact b_or (R := fun _ => False) h1 (fun e => nomatch e) (fun _ => rfl) (fun c e => e.elim)
theorem b_not {P : Bool → Prop} (h : EvB W K tt Γ fun b => P (!b)) : EvB W K (tNot tt) Γ P := fun σ G H n k Q q => h σ G H n k _ fun b G2 H2 s p => q _ G2 H2 s p
theorem b_notx {a : Bool} (h : EvBX W K tt Γ a) : EvBX W K (tNot tt) Γ (!a) := b_not (h.imp fun d e => by rw [e])
/-- and, or, not as values -/
theorem v_andx {a b : Bool} (h1 : EvX W K ta Γ (.bl a)) (h2 : a = true → EvX W K tb Γ (.bl b)) : EvX W K (tAndV ta tb) Γ (.bl (a && b)) := fun σ G H n k Q q => h1 σ G H n k _ fun v d G2 H2 s e r => by
  subst e
  cases r
  refine ⟨a, rfl, ?_⟩
  cases a with
  | true =>
    show tb σ H2 Q
    exact h2 rfl σ G2 H2 (n.mono s.gg) (s.ok k) Q (q.step s)
  | false =>
    show Q (.bl false) H2
    exact (q.step s).here (s.ok k) (.bl _) rfl
theorem v_notx {a : Bool} (h1 : EvX W K ta Γ (.bl a)) : EvX W K (tNotV ta) Γ (.bl (!a)) := fun σ G H n k Q q => h1 σ G H n k _ fun v d G2 H2 s e r => by
  subst e
  cases r
  exact ⟨a, rfl, (q.step s).here (s.ok k) (.bl _) rfl⟩
/-- a chain of two comparisons of ints -/
theorem v_chain {r r' : R2} {x y z : Dat} {c1 c2 : Bool} (ha : EvX W K ta Γ x) (hb : EvX W K tb Γ y) (hc : EvX W K tc Γ z) (h1 : RV W K r x y (· = .bl c1)) (h2 : RV W K r' y z (· = .bl c2)) : EvX W K (tChain r r' ta tb tc) Γ (.bl (c1 && c2)) := fun σ G H n k Q q =>
  ha σ G H n k _ fun vx dx G2 H2 s2 ex rx => hb σ G2 H2 (n.mono s2.gg) (s2.ok k) _ fun vy dy G3 H3 s3 ey ry => by
    subst ex ey
    have k3 := s3.ok (s2.ok k)
    refine h1 G3 H3 vx vy k3 (rx.mono s3.gg) ry _ fun v4 d4 G4 H4 s4 e4 r4 => ?_
    subst e4
    cases r4
    refine ⟨c1, rfl, ?_⟩
    have s14 := (s2.trans s3).trans s4
    cases c1 with
    | true =>
      rw [if_pos rfl]
      refine hc σ G4 H4 (n.mono s14.gg) (s14.ok k) _ fun vz dz G5 H5 s5 ez rz => ?_
      subst ez
      refine h2 G5 H5 vy vz (s5.ok (s14.ok k)) (ry.mono (s4.gg.trans s5.gg)) rz Q ?_
      exact q.step (s14.trans s5)
    | false =>
      rw [if_neg Bool.false_ne_true]
      exact (q.step s14).here (s14.ok k) (.bl _) rfl
theorem r_le {i j : Int} : RV W K (rI0 fun i j => .bl (decide (i ≤ j))) (.int i) (.int j) (· = .bl (decide (i ≤ j))) := rv_I0 (g := fun i j => .bl (decide (i ≤ j))) fun _ => .bl _
theorem r_lt {i j : Int} : RV W K (rI0 fun i j => .bl (decide (i < j))) (.int i) (.int j) (· = .bl (decide (i < j))) := rv_I0 (g := fun i j => .bl (decide (i < j))) fun _ => .bl _

/-! ## arguments, displays -/
theorem a_nil : EvAX W K tNil Γ [] := fun σ G H n k Q q => q [] [] G H (Stp.refl k) rfl .nil
theorem a_consx {ds : List Dat} (h : EvX W K ta Γ d) (h2 : EvAX W K tA Γ ds) : EvAX W K (tCons ta tA) Γ (d :: ds) := fun σ G H n k Q q =>
  h σ G H n k _ fun v d G2 H2 s p r => h2 σ G2 H2 (n.mono s.gg) (s.ok k) _ fun vs ds G3 H3 t pr rr => q _ _ G3 H3 (s.trans t) (by rw [p, pr]) (.cons (r.mono t.gg) rr)
theorem EvA.imp {P R : List Dat → Prop} (h : EvA W K tA Γ P) (i : ∀ d, P d → R d) : EvA W K tA Γ R := fun σ G H n k Q q => h σ G H n k Q fun v d G2 H2 s p r => q v d G2 H2 s (i d p) r
theorem sz_of {n : Nat} (h : n ≤ 100000) : n ≤ sizeLine := Nat.le_trans h (by decide)
theorem sz_lt {n : Nat} (h : n < 100000) : n < sizeLine := Nat.lt_of_lt_of_le h (by decide)
theorem v_tup {P : List Dat → Prop} (h : EvA W K tA Γ P) (hl : ∀ ds, P ds → ds.length ≤ 100000) (i : ∀ ds, P ds → S (.tup ds)) : Ev W K (tTup tA) Γ S := fun σ G H n k Q q =>
  h σ G H n k _ fun vs ds G2 H2 s p r => ⟨by rw [r.length]; exact sz_of (hl ds p), fun a ha => q _ (.tup ds) _ _ (s.trans (Stp.new (s.ok k) ha)) (i ds p) (.tup (t_of upd_same) (r.mono (Stp.new (s.ok k) (W := W) ha).gg))⟩
theorem v_tupx {ds : List Dat} (h : EvAX W K tA Γ ds) (hl : ds.length ≤ 100000) : EvX W K (tTup tA) Γ (.tup ds) := v_tup h (fun _ e => by rw [e]; exact hl) (fun _ e => by rw [e])
theorem v_lst {P : List Dat → Prop} (h : EvA W K tA Γ P) (hl : ∀ ds, P ds → ds.length ≤ 100000) (i : ∀ ds, P ds → S (.lst ds)) : Ev W K (tLst tA) Γ S := fun σ G H n k Q q =>
  h σ G H n k _ fun vs ds G2 H2 s p r => ⟨by rw [r.length]; exact sz_of (hl ds p), fun a ha => q _ (.lst ds) _ _ (s.trans (Stp.new (s.ok k) ha)) (i ds p) (.lst (l_of upd_same) (r.mono (Stp.new (s.ok k) (W := W) ha).gg))⟩
theorem v_lstx {ds : List Dat} (h : EvAX W K tA Γ ds) (hl : ds.length ≤ 100000) : EvX W K (tLst tA) Γ (.lst ds) := v_lst h (fun _ e => by rw [e]; exact hl) (fun _ e => by rw [e])
theorem n_lst {P : List Dat → Prop} (h : EvA W K tA Γ P) (hl : ∀ ds, P ds → ds.length ≤ 100000) : EvN W K (tLst tA) Γ P := fun σ G H n k Q q =>
  h σ G H n k _ fun vs ds G2 H2 s p r => ⟨by rw [r.length]; exact sz_of (hl ds p), fun a ha => by
    have g2 : G2 a = none := by
      cases e : G2 a with
      | none => rfl
      | some u =>
        rw [s.gh a u e] at ha
        cases ha
    have h0 : H a = none := by
      cases e : H a with
      | none => rfl
      | some u =>
        by_cases hm : W.m a
        · obtain ⟨z, hz⟩ := W.tr s.inv hm
          rw [hz] at ha
          cases ha
        · rw [s.hh a u hm e] at ha
          cases ha
    exact q a vs ds G2 _ (s.trans (Stp.grow (s.ok k) (Ex.new ha))) h0 g2 upd_same r p⟩
/-- a new list, known from now on -/
theorem EvN.ev {P : List Dat → Prop} (h : EvN W K te Γ P) (i : ∀ ds, P ds → S (.lst ds)) : Ev W K te Γ S := fun σ G H n k Q q =>
  h σ G H n k _ fun p xs ds G2 H2 s h0 g2 h2 r pd => by
    have gg : Ex G2 (upd G2 p (.lst xs)) := Ex.new g2
    refine q _ (.lst ds) (upd G2 p (.lst xs)) H2 ⟨s.gg.trans gg, fun a o e => ?_, s.hh, fun a o e => ?_, s.inv⟩ (i ds pd) (.lst (l_of upd_same) (r.mono gg))
    · by_cases ea : a = p
      · subst ea
        rw [upd_same] at e
        rw [h2]
        exact e
      · rw [upd_ne ea] at e
        exact s.gh a o e
    · by_cases ea : a = p
      · subst ea
        exact .inr h0
      · rw [upd_ne ea] at e
        exact s.nw a o e

/-! ## subscripts, slices -/
theorem rv_ixL {ds : List Dat} {j : Nat} (h : ds[j]? = some d) : RV W K (rIxL K) (.lst ds) (.int (j : Int)) (· = d) := fun G H x y k rx ry Q q => by
  obtain ⟨a, xs, rfl, hs, r⟩ := rx.lst_inv
  cases ry
  obtain ⟨v, h1, h2⟩ := r.get h
  exact ⟨a, xs, (j : Int), v, rfl, rfl, ex_l k.ex hs, atI_nat h1, q.here k h2 rfl⟩
theorem rv_ixT {ds : List Dat} {j : Nat} (h : ds[j]? = some d) : RV W K (rIxT K) (.tup ds) (.int (j : Int)) (· = d) := fun G H x y k rx ry Q q => by
  obtain ⟨a, xs, rfl, hs, r⟩ := rx.tup_inv
  cases ry
  obtain ⟨v, h1, h2⟩ := r.get h
  exact ⟨a, xs, (j : Int), v, rfl, rfl, ex_t k.ex hs, atI_nat h1, q.here k h2 rfl⟩
theorem v_ixL {ds : List Dat} {i : Int} {j : Nat} (ha : EvX W K ta Γ (.lst ds)) (hb : EvX W K tb Γ (.int i)) (e : i = (j : Int)) (h : ds[j]? = some d) : EvX W K (tOp (rIxL K) ta tb) Γ d := v_opx ha (e ▸ hb) (rv_ixL h)
theorem v_ixT {ds : List Dat} {i : Int} {j : Nat} (ha : EvX W K ta Γ (.tup ds)) (hb : EvX W K tb Γ (.int i)) (e : i = (j : Int)) (h : ds[j]? = some d) : EvX W K (tOp (rIxT K) ta tb) Γ d := v_opx ha (e ▸ hb) (rv_ixT h)
theorem o_none : EvO W K tNoPart Γ (· = none) := fun σ G H n k Q q => q none G H (Stp.refl k) rfl
theorem o_some {i : Int} (h : EvX W K te Γ (.int i)) : EvO W K (tPart te) Γ (· = some i) := fun σ G H n k Q q => h σ G H n k _ fun v d G2 H2 s e r => by
  subst e
  cases r
  exact ⟨i, rfl, q _ G2 H2 s rfl⟩
/-- a slice by data -/
def cutD (ds : List Dat) (lo hi : Option Int) : List Dat := (ds.drop (HT.sIx ds.length 0 lo)).take (HT.sIx ds.length ds.length hi - HT.sIx ds.length 0 lo)
theorem cut_reps {G : Hp} {xs : List V} {ds : List Dat} (r : Reps K G xs ds) (lo hi : Option Int) : Reps K G (cutV xs lo hi) (cutD ds lo hi) := by
  unfold cutV cutD
  rw [r.length]
  exact (r.drop _).take _
theorem v_slT {tl th : TO} {ds : List Dat} {lo hi : Option Int} (h : EvX W K te Γ (.tup ds)) (h1 : EvO W K tl Γ (· = lo)) (h2 : EvO W K th Γ (· = hi)) : EvX W K (tSl (rSlA K) te tl th) Γ (.tup (cutD ds lo hi)) := fun σ G H n k Q q =>
  h σ G H n k _ fun v d G2 H2 s2 e r => by
    subst e
    refine h1 σ G2 H2 (n.mono s2.gg) (s2.ok k) _ fun o_lo G3 H3 s3 e3 => ?_
    subst e3
    have k3 := s3.ok (s2.ok k)
    refine h2 σ G3 H3 (n.mono (s2.gg.trans s3.gg)) k3 _ fun o_hi G4 H4 s4 e4 => ?_
    subst e4
    have s14 := (s2.trans s3).trans s4
    obtain ⟨a, xs, rfl, hs, r⟩ := (r.mono (s3.gg.trans s4.gg)).tup_inv
    have k4 := s14.ok k
    refine ⟨a, xs, rfl, ex_t k4.ex hs, fun w => ?_, fun _ p hp => ?_⟩
    · refine (q.step s14).here k4 (.tup hs ?_) rfl
      have e : cutD ds o_lo o_hi = ds := by
        unfold cutD
        rw [← r.length, w.1, w.2]
        simp [r.length]
      rw [e]
      exact r
    · exact (q.step s14) _ _ _ _ (Stp.new k4 hp) rfl (.tup (t_of upd_same) ((cut_reps r _ _).mono (Stp.new k4 hp (W := W)).gg))

theorem n_slL {tl th : TO} {ds : List Dat} {lo hi : Option Int} (h : EvX W K te Γ (.lst ds)) (h1 : EvO W K tl Γ (· = lo)) (h2 : EvO W K th Γ (· = hi)) : EvX W K (tSl (rSlL K) te tl th) Γ (.lst (cutD ds lo hi)) := fun σ G H n k Q q =>
  h σ G H n k _ fun v d G2 H2 s2 e r => by
    subst e
    refine h1 σ G2 H2 (n.mono s2.gg) (s2.ok k) _ fun o_lo G3 H3 s3 e3 => ?_
    subst e3
    have k3 := s3.ok (s2.ok k)
    refine h2 σ G3 H3 (n.mono (s2.gg.trans s3.gg)) k3 _ fun o_hi G4 H4 s4 e4 => ?_
    subst e4
    have s14 := (s2.trans s3).trans s4
    obtain ⟨a, xs, rfl, hs, r⟩ := (r.mono (s3.gg.trans s4.gg)).lst_inv
    have k4 := s14.ok k
    refine ⟨a, xs, rfl, ex_l k4.ex hs, fun p hp => ?_⟩
    exact (q.step s14) _ _ _ _ (Stp.new k4 hp) rfl (.lst (l_of upd_same) ((cut_reps r _ _).mono (Stp.new k4 hp (W := W)).gg))
theorem cutD_to (ds : List Dat) (n : Nat) : cutD ds none (some (n : Int)) = ds.take n := by
  unfold cutD
  rw [HT.sIx_none, HT.sIx_nat, List.drop_zero, Nat.sub_zero]
  by_cases h : n ≤ ds.length
  · rw [Nat.min_eq_left h]
  · rw [Nat.min_eq_right (by omega), List.take_of_length_le (Nat.le_refl _), List.take_of_length_le (by omega)]
theorem cutD_from (ds : List Dat) (n : Nat) : cutD ds (some (n : Int)) none = ds.drop n := by
  unfold cutD
  rw [HT.sIx_none, HT.sIx_nat]
  by_cases h : n ≤ ds.length
  · rw [Nat.min_eq_left h, List.take_of_length_le]
    rw [List.length_drop]
    exact Nat.le_refl _
  · rw [Nat.min_eq_right (by omega), List.drop_of_length_le (Nat.le_refl _), List.drop_of_length_le (by omega), List.take_nil]
/-! ## sums of tuples -/
theorem v_cat {xs ys : List Dat} (ha : EvX W K ta Γ (.tup xs)) (hb : EvX W K tb Γ (.tup ys)) (hz : xs.length + ys.length ≤ 100000) : EvX W K (tOp (rCatA K) ta tb) Γ (.tup (xs ++ ys)) := v_opx ha hb fun G H x y k rx ry Q q => by
  obtain ⟨a, vs, rfl, hs, r⟩ := rx.tup_inv
  obtain ⟨b, us, rfl, ht, t⟩ := ry.tup_inv
  refine ⟨a, b, vs, us, rfl, rfl, ex_t k.ex hs, ex_t k.ex ht, by rw [r.length, t.length]; exact sz_of hz, fun e => ?_, fun _ e => ?_, fun _ _ p hp => ?_⟩
  · subst e
    cases r
    exact q.here k (.tup ht t) rfl
  · subst e
    cases t
    rw [List.append_nil] at q
    exact q.here k (.tup hs r) rfl
  · exact q _ _ _ _ (Stp.new k hp) rfl (.tup (t_of upd_same) ((r.append t).mono (Stp.new k hp (W := W)).gg))
/-! ## built-ins -/
theorem v_cb {r : List V → Hp → VK → Prop} {P : List Dat → Prop} (h : EvA W K tA Γ P) (hr : ∀ ds, P ds → RC W K r ds S) : Ev W K (tCB r tA) Γ S := fun σ G H n k Q q =>
  h σ G H n k _ fun vs ds G2 H2 s p rr => hr ds p G2 H2 vs (s.ok k) rr Q (q.step s)
theorem v_cbx {r : List V → Hp → VK → Prop} {ds : List Dat} (h : EvAX W K tA Γ ds) (hr : RC W K r ds S) : Ev W K (tCB r tA) Γ S := v_cb h fun _ e => by rw [e]; exact hr
abbrev rLen (K : PySem.W.Frag) : List V → Hp → VK → Prop := fun xs H Q => ∃ p ys, xs = [.ref p] ∧ (SqL K H p ys ∨ SqT K H p ys) ∧ Q (.int ys.length) H
theorem v_lenT {ds : List Dat} (h : EvX W K ta Γ (.tup ds)) : EvX W K (tCB (rLen K) (tCons ta tNil)) Γ (.int (ds.length : Int)) := v_cbx (a_consx h a_nil) fun G H xs k r Q q => by
  cases r with
  | cons r r0 =>
    cases r0
    obtain ⟨a, vs, rfl, hs, r⟩ := r.tup_inv
    exact ⟨a, vs, rfl, .inr (ex_t k.ex hs), by rw [r.length]; exact q.here k (.int _) rfl⟩
theorem v_lenL {ds : List Dat} (h : EvX W K ta Γ (.lst ds)) : EvX W K (tCB (rLen K) (tCons ta tNil)) Γ (.int (ds.length : Int)) := v_cbx (a_consx h a_nil) fun G H xs k r Q q => by
  cases r with
  | cons r r0 =>
    cases r0
    obtain ⟨a, vs, rfl, hs, r⟩ := r.lst_inv
    exact ⟨a, vs, rfl, .inl (ex_l k.ex hs), by rw [r.length]; exact q.here k (.int _) rfl⟩
theorem v_tupleL {P : List Dat → Prop} (h : Ev W K te Γ fun d => ∃ ds, d = .lst ds ∧ S (.tup ds)) : Ev W K (tThen te (kTup K)) Γ S := fun σ G H n k Q q =>
  h σ G H n k _ fun v d G2 H2 s ⟨ds, e, p⟩ r => by
    subst e
    obtain ⟨a, vs, rfl, hs, r⟩ := r.lst_inv
    have k2 := s.ok k
    exact .inl ⟨a, vs, rfl, ex_l k2.ex hs, fun p' hp => (q.step s) _ _ _ _ (Stp.new k2 hp) p (.tup (t_of upd_same) (r.mono (Stp.new k2 hp (W := W)).gg))⟩
theorem v_tupleLx {ds : List Dat} (h : EvX W K te Γ (.lst ds)) : EvX W K (tThen te (kTup K)) Γ (.tup ds) := v_tupleL (P := fun _ => True) (h.imp fun d e => ⟨ds, e, rfl⟩)
theorem v_tupleTx {ds : List Dat} (h : EvX W K te Γ (.tup ds)) : EvX W K (tThen te (kTup K)) Γ (.tup ds) := fun σ G H n k Q q =>
  h σ G H n k _ fun v d G2 H2 s e r => by
    subst e
    obtain ⟨a, vs, rfl, hs, r⟩ := r.tup_inv
    have k2 := s.ok k
    exact .inr ⟨a, vs, rfl, ex_t k2.ex hs, (q.step s).here k2 (.tup hs r) rfl⟩
abbrev rLst (K : PySem.W.Frag) : List V → Hp → VK → Prop := fun xs H Q => ∃ p ys, xs = [.ref p] ∧ (SqL K H p ys ∨ SqT K H p ys) ∧ ∀ l, H l = none → Q (.ref l) (upd H l (.lst ys))
theorem back {G H G2 H2 : Hp} {a : Addr} (s : Stp W G H G2 H2) (ha : H2 a = none) : H a = none ∧ G2 a = none := by
  constructor
  · cases e : H a with
    | none => rfl
    | some u =>
      by_cases hm : W.m a
      · obtain ⟨z, hz⟩ := W.tr s.inv hm
        rw [hz] at ha
        cases ha
      · rw [s.hh a u hm e] at ha
        cases ha
  · cases e : G2 a with
    | none => rfl
    | some u =>
      rw [s.gh a u e] at ha
      cases ha
theorem n_listT {ds : List Dat} (h : EvX W K ta Γ (.tup ds)) : EvN W K (tCB (rLst K) (tCons ta tNil)) Γ (· = ds) := fun σ G H n k Q q =>
  a_consx h a_nil σ G H n k _ fun vs es G2 H2 s e r => by
    subst e
    cases r with
    | cons r r0 =>
      cases r0
      obtain ⟨a, vs, rfl, hs, r⟩ := r.tup_inv
      exact ⟨a, vs, rfl, .inr (ex_t (s.ok k).ex hs), fun l hl => q l vs ds G2 _ (s.trans (Stp.grow (s.ok k) (Ex.new hl))) (back s hl).1 (back s hl).2 upd_same r rfl⟩
abbrev rInt1 : List V → Hp → VK → Prop := fun xs H Q => (∃ i, xs = [.int i] ∧ Q (.int i) H) ∨ ∃ k, xs = [.bl k] ∧ Q (.int (if k then 1 else 0)) H
theorem v_int1 {i : Int} (h : EvX W K ta Γ (.int i)) : EvX W K (tCB rInt1 (tCons ta tNil)) Γ (.int i) := v_cbx (a_consx h a_nil) fun G H xs k r Q q => by
  cases r with
  | cons r r0 =>
    cases r0
    cases r
    exact .inl ⟨i, rfl, q.here k (.int _) rfl⟩
/-- all(..) of a list of truth values -/
theorem reps_bools {G : Hp} : ∀ {bs : List Bool} {xs : List V}, Reps K G xs (bs.map Dat.bl) → xs = bs.map V.bl
  | [], _, h => by
    cases h
    rfl
  | b :: bs, _, h => by
    cases h with
    | cons h r =>
      cases h
      rw [reps_bools (bs := bs) r]
      rfl
theorem v_all {bs : List Bool} (h : EvX W K ta Γ (.lst (bs.map Dat.bl))) : EvX W K (tCB (rAll K) (tCons ta tNil)) Γ (.bl (bs.all id)) := v_cbx (a_consx h a_nil) fun G H xs k r Q q => by
  cases r with
  | cons r r0 =>
    cases r0
    obtain ⟨a, vs, rfl, hs, r⟩ := r.lst_inv
    rw [reps_bools r] at hs
    exact ⟨a, bs, rfl, ex_l k.ex hs, q.here k (.bl _) rfl⟩
/-- isinstance(x, T) -/
def tyN : Dat → String
  | .non => "NoneType" | .bl _ => "bool" | .int _ => "int" | .str _ => "str" | .tup _ => "tuple" | .lst _ => "list" | _ => "object"
def typed : Dat → Bool
  | .adr _ => false | .obj _ _ => false | .dct _ => false | .dcs _ => false | _ => true
theorem ty_t {H : Hp} {a : Addr} {xs : List V} (h : SqT K H a xs) : TyX K H (.ref a) (.type "tuple") := by
  rcases h with (h | ⟨o, h⟩) | ⟨o, its, n, h, c, _⟩
  · exact .base (.tup h)
  · exact .fTuple h
  · exact .kTuple h c
theorem ty_l {H : Hp} {a : Addr} {xs : List V} (h : SqL K H a xs) : TyX K H (.ref a) (.type "list") := by
  rcases h with (h | ⟨o, h⟩) | ⟨o, its, n, h, c, _⟩
  · exact .base (.lst h)
  · exact .base (.frz h)
  · exact .kList h c
theorem ty_x {G H : Hp} {v : V} {d : Dat} (e : Ex G H) (ht : typed d = true) (r : Rep K G v d) : TyX K H v (.type (tyN d)) := by
  cases r with
  | non => exact .base .non
  | bl b => exact .base (.bl b)
  | int i => exact .base (.int i)
  | str x => exact .base (.str x)
  | adr a => cases ht
  | tup h _ => exact ty_t (ex_t e h)
  | lst h _ => exact ty_l (ex_l e h)
  | obj _ _ => cases ht
  | dct _ _ => cases ht
  | dcs _ _ => cases ht
theorem v_isi {T : String} {c : Bool} (h : EvX W K ta Γ d) (ht : typed d = true) (hk : PySem.W.kitOne K (.type (tyN d)) (.type T) = some c) : EvX W K (tCB (rIsi K) (tCons ta (tCons (tC (.ty T)) tNil))) Γ (.bl c) := fun σ G H n k Q q =>
  h σ G H n k _ fun v d G2 H2 s e r => by
    subst e
    exact ⟨v, .ty T, _, _, c, rfl, .ty T, ty_x (s.ok k).ex ht r, hk, (q.step s).here (s.ok k) (.bl _) rfl⟩
end
end Ly

set_option maxHeartbeats 2000000
namespace Ly
open PySem L2

/-! ## promises -/
/-- what a def's arguments are, and what its value is -/
abbrev Sig := List Dat → (Dat → Prop) → Prop
def spOf (W : Wd) (K : PySem.W.Frag) (A : Sig) : Sp := fun vs H Q _ => ∃ G ds P, Ok W G H ∧ Reps K G vs ds ∧ A ds P ∧ Go W K G H P Q
theorem spOf_len {W : Wd} {K : PySem.W.Frag} {A : Sig} {n : Nat} (h : ∀ ds P, A ds P → ds.length = n) : ∀ vs H Q E, spOf W K A vs H Q E → vs.length = n := fun vs H Q E ⟨G, ds, P, _, r, a, _⟩ => r.length.trans (h ds P a)

section
variable {W : Wd} {K : PySem.W.Frag} {Γ : List (Option Dat)} {ta tb tc te : TE} {tt tu : TT} {tA : TA} {P R S : Dat → Prop} {a b d e : Dat} {G H G2 H2 : Hp}
/-- a call of a def whose promise is over no world, and over the own one -/
theorem v_call0 {A : Sig} {E : XK} {R : List Dat → Prop} (h : EvA W K tA Γ R) (hs : ∀ ds, R ds → A ds P) : Ev W K (tCall (spOf Wd0 K A) [] E tA) Γ P := fun σ G H n k Q q =>
  h σ G H n k _ fun vs ds G2 H2 s p r => by
    rw [List.append_nil]
    exact ⟨G2, ds, P, (s.ok k).pure, r, hs ds p, fun v d G3 H3 t pd rd => q v d G3 H3 (s.trans (Stp.of0 (s.ok k) t)) pd rd⟩
theorem v_call0x {A : Sig} {E : XK} {ds : List Dat} (h : EvAX W K tA Γ ds) (hs : A ds P) : Ev W K (tCall (spOf Wd0 K A) [] E tA) Γ P := v_call0 h fun _ e => by rw [e]; exact hs

/-! ## the state of a body -/
/-- a list of the body's own, at l: its items ds -/
structure Own (W : Wd) (K : PySem.W.Frag) (H0 G H : Hp) (l : Addr) (ds : List Dat) : Prop where
  g : G l = none
  h0 : H0 l = none
  m : ¬ W.m l
  at' : ∃ xs, H l = some (.lst xs) ∧ Reps K G xs ds
structure S4 (W : Wd) (K : PySem.W.Frag) (G1 G0 H0 : Hp) (Γ : List (Option Dat)) (O : List (Addr × List Dat)) (σ : L2.St) (G H : Hp) : Prop where
  env : Env K G σ Γ
  ok : Ok W G H
  stp : Stp W G0 H0 G H
  own : ∀ l ds, (l, ds) ∈ O → Own W K H0 G H l ds
  nd : (O.map (·.1)).Nodup
  fr : Ex G1 G
variable {G1 G0 H0 : Hp} {O O' : List (Addr × List Dat)} {σ : L2.St} {D : Ends} {tz ts t1 t2 : TS}
theorem Own.step {l : Addr} {ds : List Dat} (o : Own W K H0 G H l ds) (s : Stp W G H G2 H2) : Own W K H0 G2 H2 l ds := by
  obtain ⟨xs, h1, h2⟩ := o.at'
  refine ⟨?_, o.h0, o.m, xs, s.hh l _ o.m h1, h2.mono s.gg⟩
  cases e : G2 l with
  | none => rfl
  | some u =>
    rcases s.nw l u e with q | q
    · rw [o.g] at q
      cases q
    · rw [h1] at q
      cases q
theorem S4.step (S : S4 W K G1 G0 H0 Γ O σ G H) (s : Stp W G H G2 H2) : S4 W K G1 G0 H0 Γ O σ G2 H2 :=
  ⟨S.env.mono s.gg, s.ok S.ok, S.stp.trans s, fun l ds h => (S.own l ds h).step s, S.nd, S.fr.trans s.gg⟩
theorem S4.weak {Γ' : List (Option Dat)} (w : Wk Γ Γ') (S : S4 W K G1 G0 H0 Γ O σ G H) : S4 W K G1 G0 H0 Γ' O σ G H := ⟨S.env.weak w, S.ok, S.stp, S.own, S.nd, S.fr⟩
theorem S4.set {i : Nat} {v : V} (r : Rep K G v d) (S : S4 W K G1 G0 H0 Γ O σ G H) : S4 W K G1 G0 H0 (Γ.set i (some d)) O (σ.set i (some v)) G H := ⟨S.env.set r, S.ok, S.stp, S.own, S.nd, S.fr⟩
theorem S4.start {N : List Str} {vs : List V} {ds : List Dat} (k : Ok W G H) (r : Reps K G vs ds) : S4 W K G G H (ds.map some ++ List.replicate (N.length - ds.length) Option.none) [] (L2.start N vs) G H :=
  ⟨env_start r, k, Stp.refl k, (fun _ _ h => nomatch h), List.nodup_nil, Ex.refl _⟩

/-! ### statements -/
theorem g_set {i : Nat} (h : Ev W K te Γ P) (S : S4 W K G1 G0 H0 Γ O σ G H) (k : ∀ d σ2 G2 H2, P d → S4 W K G1 G0 H0 (Γ.set i (some d)) O σ2 G2 H2 → D.nx σ2 H2) : tAsg te (gName i) D σ H :=
  h σ G H S.env S.ok _ fun v d G2 H2 s p r => k d _ G2 H2 p ((S.step s).set r)
theorem q_set {i : Nat} (h : Ev W K te Γ P) (S : S4 W K G1 G0 H0 Γ O σ G H) (k : ∀ d σ2 G2 H2, P d → S4 W K G1 G0 H0 (Γ.set i (some d)) O σ2 G2 H2 → tz D σ2 H2) : tSeq (tAsg te (gName i)) tz D σ H := g_set (D := { D with nx := tz D }) h S k
theorem g_setx {i : Nat} (h : EvX W K te Γ d) (S : S4 W K G1 G0 H0 Γ O σ G H) (k : ∀ σ2 G2 H2, S4 W K G1 G0 H0 (Γ.set i (some d)) O σ2 G2 H2 → D.nx σ2 H2) : tAsg te (gName i) D σ H := g_set h S fun d' σ2 G2 H2 e => by
  subst e
  exact k σ2 G2 H2
theorem q_setx {i : Nat} (h : EvX W K te Γ d) (S : S4 W K G1 G0 H0 Γ O σ G H) (k : ∀ σ2 G2 H2, S4 W K G1 G0 H0 (Γ.set i (some d)) O σ2 G2 H2 → tz D σ2 H2) : tSeq (tAsg te (gName i)) tz D σ H := g_setx (D := { D with nx := tz D }) h S k
/-- x = a new list, to be the body's own -/
theorem g_setN {i : Nat} {P : List Dat → Prop} (h : EvN W K te Γ P) (S : S4 W K G1 G0 H0 Γ O σ G H) (k : ∀ l ds σ2 G2 H2, P ds → S4 W K G1 G0 H0 (Γ.set i (some (.adr l))) ((l, ds) :: O) σ2 G2 H2 → D.nx σ2 H2) : tAsg te (gName i) D σ H :=
  h σ G H S.env S.ok _ fun p xs ds G2 H2 s h0 g2 h2 r pd => by
    have S2 := (S.step s).set (i := i) (Rep.adr p)
    refine k p ds _ G2 H2 pd ⟨S2.env, S2.ok, S2.stp, fun l es hm => ?_, ?_, S2.fr⟩
    · rcases List.mem_cons.mp hm with e | hm
      · cases e
        refine ⟨g2, ?_, fun hmm => ?_, xs, h2, r⟩
        · exact (back S.stp h0).1
        · obtain ⟨z, hz⟩ := W.tr S.ok.inv hmm
          rw [hz] at h0
          cases h0
      · exact S2.own l es hm
    · rw [List.map_cons, List.nodup_cons]
      refine ⟨fun hm => ?_, S.nd⟩
      obtain ⟨⟨l, es⟩, h1, e⟩ := List.mem_map.mp hm
      have e : l = p := e
      subst e
      obtain ⟨ys, hy, _⟩ := (S.own _ _ h1).at'
      rw [hy] at h0
      cases h0

theorem q_setN {i : Nat} {P : List Dat → Prop} (h : EvN W K te Γ P) (S : S4 W K G1 G0 H0 Γ O σ G H) (k : ∀ l ds σ2 G2 H2, P ds → S4 W K G1 G0 H0 (Γ.set i (some (.adr l))) ((l, ds) :: O) σ2 G2 H2 → tz D σ2 H2) : tSeq (tAsg te (gName i)) tz D σ H := g_setN (D := { D with nx := tz D }) h S k
theorem g_ret (h : Ev W K te Γ P) (S : S4 W K G1 G0 H0 Γ O σ G H) (k : Go W K G0 H0 P D.rt) : tRet te D σ H :=
  h σ G H S.env S.ok _ fun v d G2 H2 s p r => k v d G2 H2 (S.stp.trans s) p r
theorem g_if {P : Bool → Prop} (h : EvB W K tt Γ P) (S : S4 W K G1 G0 H0 Γ O σ G H) (k1 : P true → ∀ G2 H2, S4 W K G1 G0 H0 Γ O σ G2 H2 → t1 D σ H2) (k2 : P false → ∀ G2 H2, S4 W K G1 G0 H0 Γ O σ G2 H2 → t2 D σ H2) : tIfS tt t1 t2 D σ H :=
  h σ G H S.env S.ok _ fun b G2 H2 s p => by
    cases b with
    | true =>
      show t1 D σ H2
      exact k1 p G2 H2 (S.step s)
    | false =>
      show t2 D σ H2
      exact k2 p G2 H2 (S.step s)
theorem q_if {P : Bool → Prop} (h : EvB W K tt Γ P) (S : S4 W K G1 G0 H0 Γ O σ G H) (k1 : P true → ∀ G2 H2, S4 W K G1 G0 H0 Γ O σ G2 H2 → t1 { D with nx := tz D } σ H2) (k2 : P false → ∀ G2 H2, S4 W K G1 G0 H0 Γ O σ G2 H2 → t2 { D with nx := tz D } σ H2) : tSeq (tIfS tt t1 t2) tz D σ H := g_if (D := { D with nx := tz D }) h S k1 k2
theorem q_when {P : Bool → Prop} (h : EvB W K tt Γ P) (S : S4 W K G1 G0 H0 Γ O σ G H) (k1 : P true → ∀ G2 H2, S4 W K G1 G0 H0 Γ O σ G2 H2 → t1 { D with nx := tz D } σ H2) (k2 : P false → ∀ G2 H2, S4 W K G1 G0 H0 Γ O σ G2 H2 → tz D σ H2) : tSeq (tIfS tt t1 tNext) tz D σ H := g_if (D := { D with nx := tz D }) h S k1 k2
/-- a statement, then the rest from a word between them -/
theorem q_cut {tu : TS} (M : L2.St → Hp → Prop) (h : tu { D with nx := M } σ H) (k : ∀ σ' H', M σ' H' → tz D σ' H') : Evl.tCut tu tz D σ H := ⟨M, h, k⟩

/-! ### own lists -/
/-- the own list is known from now on -/
theorem S4.keepX {l : Addr} {ds : List Dat} {i : Nat} (hi : Γ[i]? = some (some (.adr l))) (S : S4 W K G1 G0 H0 Γ ((l, ds) :: O) σ G H) : ∃ G2, S4 W K G1 G0 H0 (Γ.set i (some (.lst ds))) O σ G2 H ∧ ∃ xs, G2 l = some (.lst xs) ∧ Reps K G2 xs ds := by
  have o := S.own l ds List.mem_cons_self
  obtain ⟨xs, h1, h2⟩ := o.at'
  have gg : Ex G (upd G l (.lst xs)) := Ex.new o.g
  have s : Stp W G0 H0 (upd G l (.lst xs)) H := ⟨S.stp.gg.trans gg, fun a u e => by
      by_cases ea : a = l
      · subst ea
        rw [upd_same] at e
        rw [h1]
        exact e
      · rw [upd_ne ea] at e
        exact S.ok.ex a u e, S.stp.hh, fun a u e => by
      by_cases ea : a = l
      · subst ea
        exact .inr o.h0
      · rw [upd_ne ea] at e
        exact S.stp.nw a u e, S.stp.inv⟩
  refine ⟨upd G l (.lst xs), ⟨?_, ⟨s.gh, s.inv, fun a ha => ?_⟩, s, fun l2 es hm => ?_, ?_, S.fr.trans gg⟩, xs, upd_same, h2.mono gg⟩
  · obtain ⟨v, e1, e2⟩ := S.env.at' i _ hi
    have e3 := e2.adr_inv
    subst e3
    have q : Env K (upd G l (.lst xs)) (σ.set i (some (.ref l))) (Γ.set i (some (.lst ds))) := (S.env.mono gg).set (.lst (l_of upd_same) (h2.mono gg))
    have e4 : σ.set i (some (.ref l)) = σ := by
      apply List.ext_getElem?
      intro j
      by_cases hj : i = j
      · subst hj
        have hlt : i < σ.length := by
          rcases Nat.lt_or_ge i σ.length with q | q
          · exact q
          · rw [List.getElem?_eq_none q] at e1
            cases e1
        rw [List.getElem?_set_self hlt, e1]
      · rw [List.getElem?_set_ne hj]
    rw [e4] at q
    exact q
  · have ne : a ≠ l := fun e => o.m (e ▸ ha)
    rw [upd_ne ne]
    exact S.ok.off a ha
  · have ne : l2 ≠ l := fun e => by
      have nd := S.nd
      rw [List.map_cons, List.nodup_cons] at nd
      subst e
      exact nd.1 (List.mem_map.mpr ⟨(l2, es), hm, rfl⟩)
    have o2 := S.own l2 es (List.mem_cons_of_mem _ hm)
    obtain ⟨ys, y1, y2⟩ := o2.at'
    exact ⟨by rw [upd_ne ne]; exact o2.g, o2.h0, o2.m, ys, y1, y2.mono gg⟩
  · have nd := S.nd
    rw [List.map_cons, List.nodup_cons] at nd
    exact nd.2
theorem S4.keep {l : Addr} {ds : List Dat} {i : Nat} (hi : Γ[i]? = some (some (.adr l))) (S : S4 W K G1 G0 H0 Γ ((l, ds) :: O) σ G H) : ∃ G2, S4 W K G1 G0 H0 (Γ.set i (some (.lst ds))) O σ G2 H := by
  obtain ⟨G2, S2, _⟩ := S4.keepX hi S
  exact ⟨G2, S2⟩
/-- the own list at l is changed -/
theorem S4.put {l : Addr} {ds es : List Dat} {ys : List V} (S : S4 W K G1 G0 H0 Γ ((l, ds) :: O) σ G H) (r : Reps K G ys es) : S4 W K G1 G0 H0 Γ ((l, es) :: O) σ G (upd H l (.lst ys)) := by
  have o := S.own l ds List.mem_cons_self
  obtain ⟨xs, h1, h2⟩ := o.at'
  have eg : Ex G (upd H l (.lst ys)) := fun a u e => by
    rw [upd_ne (ne_of_none e o.g)]
    exact S.ok.ex a u e
  have inv : W.I (upd H l (.lst ys)) := W.loc S.ok.inv fun a ha => upd_ne fun e => o.m (e ▸ ha)
  refine ⟨S.env, ⟨eg, inv, S.ok.off⟩, ⟨S.stp.gg, eg, fun a u hm e => ?_, S.stp.nw, inv⟩, fun l2 zs hm => ?_, S.nd, S.fr⟩
  · rw [upd_ne (ne_of_none e o.h0)]
    exact S.stp.hh a u hm e
  · rcases List.mem_cons.mp hm with e | hm'
    · cases e
      exact ⟨o.g, o.h0, o.m, ys, upd_same, r⟩
    · have ne : l2 ≠ l := fun e => by
        have nd := S.nd
        rw [List.map_cons, List.nodup_cons] at nd
        subst e
        exact nd.1 (List.mem_map.mpr ⟨(l2, zs), hm', rfl⟩)
      have o2 := S.own l2 zs (List.mem_cons_of_mem _ hm')
      obtain ⟨y, y1, y2⟩ := o2.at'
      exact ⟨o2.g, o2.h0, o2.m, y, by rw [upd_ne ne]; exact y1, y2⟩

/-- xs.append(e), xs the own list -/
theorem g_app {l : Addr} {ds : List Dat} (ho : EvX W K ta Γ (.adr l)) (h : Ev W K te Γ P) (S : S4 W K G1 G0 H0 Γ ((l, ds) :: O) σ G H) (hz : ds.length < 100000) (k : ∀ d G2 H2, P d → S4 W K G1 G0 H0 Γ ((l, ds ++ [d]) :: O) σ G2 H2 → D.nx σ H2) :
    tDrop (tBM K "list" rAppend ta (tCons te tNil)) D σ H := ho σ G H S.env S.ok _ fun v d G2 H2 s e r => by
  subst e
  cases r
  have S2 := S.step s
  obtain ⟨xs, h1, _⟩ := (S2.own l ds List.mem_cons_self).at'
  refine ⟨.inl ⟨rfl, xs, l_of h1⟩, ?_⟩
  refine h σ G2 H2 S2.env S2.ok _ fun y dy G3 H3 s3 py ry => ?_
  have S3 := S2.step s3
  obtain ⟨ys, h3, h4⟩ := (S3.own l ds List.mem_cons_self).at'
  refine ⟨l, ys, y, rfl, rfl, h3, by rw [h4.length]; exact sz_lt hz, ?_⟩
  exact k dy G3 _ py (S3.put (h4.append (.cons ry .nil)))
theorem q_app {l : Addr} {ds : List Dat} (ho : EvX W K ta Γ (.adr l)) (h : Ev W K te Γ P) (S : S4 W K G1 G0 H0 Γ ((l, ds) :: O) σ G H) (hz : ds.length < 100000) (k : ∀ d G2 H2, P d → S4 W K G1 G0 H0 Γ ((l, ds ++ [d]) :: O) σ G2 H2 → tz D σ H2) :
    tSeq (tDrop (tBM K "list" rAppend ta (tCons te tNil))) tz D σ H := g_app (D := { D with nx := tz D }) ho h S hz k
/-- x, y = divmod(..) and the like: a tuple of n values is taken apart; the slots js -/
def setsG (Γ : List (Option Dat)) : List Nat → List Dat → List (Option Dat)
  | j :: js, d :: ds => setsG (Γ.set j (some d)) js ds
  | _, _ => Γ
def gNames : List Nat → TGs
  | [] => gNil
  | j :: js => gCons (gName j) (gNames js)
theorem gNames_run {js : List Nat} {Q : L2.St → Hp → Prop} : ∀ {js : List Nat} {xs : List V} {ds : List Dat} {Γ : List (Option Dat)} {σ : L2.St}, Reps K G xs ds → js.length = ds.length → S4 W K G1 G0 H0 Γ O σ G H → (∀ σ2, S4 W K G1 G0 H0 (setsG Γ js ds) O σ2 G H → Q σ2 H) → gNames js xs σ H Q
  | [], _, _, _, _, .nil, _, S, k => ⟨rfl, k _ S⟩
  | j :: js, _, _, _, _, .nil, hl, _, _ => by cases hl
  | [], _, _, _, _, .cons _ _, hl, _, _ => by cases hl
  | j :: js, _, _, _, _, .cons (v := v) (vs := vs) r rs, hl, S, k => ⟨v, vs, rfl, gNames_run (js := js) rs (by simpa using hl) (S.set r) k⟩
theorem g_tup {js : List Nat} {n : Nat} {ds : List Dat} (h : EvX W K te Γ (.tup ds)) (hn : ds.length = n) (hj : js.length = n) (S : S4 W K G1 G0 H0 Γ O σ G H) (k : ∀ σ2 G2 H2, S4 W K G1 G0 H0 (setsG Γ js ds) O σ2 G2 H2 → D.nx σ2 H2) : tAsg te (gTup K n (gNames js)) D σ H :=
  h σ G H S.env S.ok _ fun v d G2 H2 s e r => by
    subst e
    obtain ⟨a, xs, rfl, hs, r⟩ := r.tup_inv
    have S2 := S.step s
    exact ⟨a, xs, rfl, ex_t S2.ok.ex hs, by rw [r.length]; exact hn, gNames_run (js := js) r (hj.trans hn.symm) S2 fun σ2 S3 => k σ2 G2 H2 S3⟩
theorem q_tup {js : List Nat} {n : Nat} {ds : List Dat} (h : EvX W K te Γ (.tup ds)) (hn : ds.length = n) (hj : js.length = n) (S : S4 W K G1 G0 H0 Γ O σ G H) (k : ∀ σ2 G2 H2, S4 W K G1 G0 H0 (setsG Γ js ds) O σ2 G2 H2 → tz D σ2 H2) : tSeq (tAsg te (gTup K n (gNames js))) tz D σ H :=
  g_tup (D := { D with nx := tz D }) h hn hj S k

/-! ### loops: a word of the turn -/
abbrev Word (W : Wd) (K : PySem.W.Frag) (G1 G0 H0 : Hp) (I : List (Option Dat) → List (Addr × List Dat) → Prop) : L2.St → Hp → Prop := fun σ H => ∃ Γ O G, I Γ O ∧ S4 W K G1 G0 H0 Γ O σ G H
theorem g_forR {lo : Int} {n : Nat} {j : Nat} {tb : TS} (I : Nat → List (Option Dat) → List (Addr × List Dat) → Prop) (h0 : I 0 Γ O) (S : S4 W K G1 G0 H0 Γ O σ G H)
    (hs : ∀ (i : Nat) Γ' O' σ' G' H', i < n → I i Γ' O' → S4 W K G1 G0 H0 (Γ'.set j (some (.int (lo + i)))) O' σ' G' H' → tb { D with nx := Word W K G1 G0 H0 (I (i + 1)), ct := Word W K G1 G0 H0 (I (i + 1)), bk := D.nx } σ' H')
    (hd : ∀ Γ' O' σ' G' H', I n Γ' O' → S4 W K G1 G0 H0 Γ' O' σ' G' H' → D.nx σ' H') :
    ∃ W' : Nat → Nat → L2.St → Hp → Prop, (∃ m, W' 0 m σ H) ∧ ∀ i m σ H, W' i m σ H → ((Itr lo n).stop i H ∧ D.nx σ H) ∨ ((Itr lo n).go i H ∧ ∃ N : L2.St → Hp → Prop, (∀ σ' H', N σ' H' → ∃ m', m' < m ∧ W' (i + 1) m' σ' H') ∧ ∀ x H', (Itr lo n).yld i H x H' → gName j x σ H' fun σ2 H2 => tb { D with nx := N, ct := N, bk := D.nx } σ2 H2) :=
  for_range (fun i σ H => Word W K G1 G0 H0 (I i) σ H) ⟨Γ, O, G, h0, S⟩ (fun i σ' H' hi ⟨Γ', O', G', hI, S'⟩ => hs i Γ' O' _ G' H' hi hI (S'.set (.int _))) (fun σ' H' ⟨Γ', O', G', hI, S'⟩ => hd Γ' O' σ' G' H' hI S')
theorem g_for1 {n : Int} {j : Nat} {tb : TS} (h : EvAX W K tA Γ [.int n]) (hn : n ≤ 100000) (S : S4 W K G1 G0 H0 Γ O σ G H) (I : Nat → List (Option Dat) → List (Addr × List Dat) → Prop) (h0 : I 0 Γ O)
    (hs : ∀ (i : Nat) Γ' O' σ' G' H', (i : Int) < n → I i Γ' O' → S4 W K G1 G0 H0 (Γ'.set j (some (.int (i : Int)))) O' σ' G' H' → tb { D with nx := Word W K G1 G0 H0 (I (i + 1)), ct := Word W K G1 G0 H0 (I (i + 1)), bk := D.nx } σ' H')
    (hd : ∀ Γ' O' σ' G' H', I n.toNat Γ' O' → S4 W K G1 G0 H0 Γ' O' σ' G' H' → D.nx σ' H') (hn0 : -100000 ≤ n) : tFor (iRng1 tA) (gName j) tb D σ H :=
  h σ G H S.env S.ok _ fun vs ds G2 H2 s e r => by
    subst e
    cases r with
    | cons r r0 =>
      cases r0
      cases r
      refine ⟨n, rfl, by omega, by omega, g_forR (lo := 0) I h0 (S.step s) (fun i Γ' O' σ' G' H' hi hI S' => ?_) hd⟩
      rw [Int.zero_add] at S'
      exact hs i Γ' O' σ' G' H' (by omega) hI S'
theorem q_for1 {n : Int} {j : Nat} {tb : TS} (h : EvAX W K tA Γ [.int n]) (hn : n ≤ 100000) (S : S4 W K G1 G0 H0 Γ O σ G H) (I : Nat → List (Option Dat) → List (Addr × List Dat) → Prop) (h0 : I 0 Γ O)
    (hs : ∀ (i : Nat) Γ' O' σ' G' H', (i : Int) < n → I i Γ' O' → S4 W K G1 G0 H0 (Γ'.set j (some (.int (i : Int)))) O' σ' G' H' → tb { D with nx := Word W K G1 G0 H0 (I (i + 1)), ct := Word W K G1 G0 H0 (I (i + 1)), bk := tz D } σ' H')
    (hd : ∀ Γ' O' σ' G' H', I n.toNat Γ' O' → S4 W K G1 G0 H0 Γ' O' σ' G' H' → tz D σ' H') (hn0 : -100000 ≤ n) : tSeq (tFor (iRng1 tA) (gName j) tb) tz D σ H :=
  g_for1 (D := { D with nx := tz D }) h hn S I h0 hs hd hn0
theorem S4.base {G2 : Hp} (e : Ex G2 G1) (S : S4 W K G1 G0 H0 Γ O σ G H) : S4 W K G2 G0 H0 Γ O σ G H := ⟨S.env, S.ok, S.stp, S.own, S.nd, e.trans S.fr⟩
theorem S4.here (S : S4 W K G1 G0 H0 Γ O σ G H) : S4 W K G G0 H0 Γ O σ G H := ⟨S.env, S.ok, S.stp, S.own, S.nd, Ex.refl _⟩
/-- over a list, a tuple that is known -/
theorem g_forL {ds : List Dat} {tl : TE} {j : Nat} {tb : TS} (h : EvX W K tl Γ (.lst ds)) (S : S4 W K G1 G0 H0 Γ O σ G H) (I : Nat → List (Option Dat) → List (Addr × List Dat) → Prop) (h0 : I 0 Γ O)
    (hs : ∀ G1 (i : Nat) d Γ' O' σ' G' H', ds[i]? = some d → I i Γ' O' → S4 W K G1 G0 H0 (Γ'.set j (some d)) O' σ' G' H' → tb { D with nx := Word W K G1 G0 H0 (I (i + 1)), ct := Word W K G1 G0 H0 (I (i + 1)), bk := D.nx } σ' H')
    (hd : ∀ Γ' O' σ' G' H', I ds.length Γ' O' → S4 W K G1 G0 H0 Γ' O' σ' G' H' → D.nx σ' H') : tFor (iList K tl) (gName j) tb D σ H :=
  h σ G H S.env S.ok _ fun v d G2 H2 s e r => by
    subst e
    obtain ⟨a, xs, rfl, hx, r⟩ := r.lst_inv
    have S2 := S.step s
    have hl := r.length
    refine ⟨a, rfl, ⟨xs, ex_l S2.ok.ex hx⟩, for_list (fun i σ' H' => Word W K G2 G0 H0 (I i) σ' H') ⟨Γ, O, G2, h0, S2.here⟩ (fun i σ' H' _ ⟨Γ', O', G', _, S'⟩ => ex_l (S'.fr.trans S'.ok.ex) hx) (fun i x σ' H' hi ⟨Γ', O', G', hI, S'⟩ => ?_) (fun σ' H' ⟨Γ', O', G', hI, S'⟩ => hd Γ' O' σ' G' H' (by rw [← hl]; exact hI) (S'.base S2.fr))⟩
    obtain ⟨d, hd', rd⟩ := r.getV hi
    exact hs G2 i d Γ' O' _ G' H' hd' hI (S'.set (rd.mono S'.fr))
theorem q_forL {ds : List Dat} {tl : TE} {j : Nat} {tb : TS} (h : EvX W K tl Γ (.lst ds)) (S : S4 W K G1 G0 H0 Γ O σ G H) (I : Nat → List (Option Dat) → List (Addr × List Dat) → Prop) (h0 : I 0 Γ O)
    (hs : ∀ G1 (i : Nat) d Γ' O' σ' G' H', ds[i]? = some d → I i Γ' O' → S4 W K G1 G0 H0 (Γ'.set j (some d)) O' σ' G' H' → tb { D with nx := Word W K G1 G0 H0 (I (i + 1)), ct := Word W K G1 G0 H0 (I (i + 1)), bk := tz D } σ' H')
    (hd : ∀ Γ' O' σ' G' H', I ds.length Γ' O' → S4 W K G1 G0 H0 Γ' O' σ' G' H' → tz D σ' H') : tSeq (tFor (iList K tl) (gName j) tb) tz D σ H :=
  g_forL (D := { D with nx := tz D }) h S I h0 hs hd
/-- a while whose test is known in each turn -/
theorem g_whilex (m0 : Nat) (I : Nat → List (Option Dat) → List (Addr × List Dat) → Prop) (S : S4 W K G1 G0 H0 Γ O σ G H) (h0 : I m0 Γ O)
    (hs : ∀ m Γ' O', I m Γ' O' → ∃ b, EvBX W K tt Γ' b ∧ (b = true → ∀ σ' G' H', S4 W K G1 G0 H0 Γ' O' σ' G' H' → ts { D with nx := fun σ2 H2 => ∃ m', m' < m ∧ Word W K G1 G0 H0 (I m') σ2 H2, ct := fun σ2 H2 => ∃ m', m' < m ∧ Word W K G1 G0 H0 (I m') σ2 H2, bk := D.nx } σ' H') ∧
      (b = false → ∀ σ' G' H', S4 W K G1 G0 H0 Γ' O' σ' G' H' → D.nx σ' H')) : tWhile tt ts D σ H :=
  ⟨fun m σ H => Word W K G1 G0 H0 (I m) σ H, ⟨m0, Γ, O, G, h0, S⟩, fun m σ' H' ⟨Γ', O', G', hI, S'⟩ => by
    obtain ⟨b, hb, h1, h2⟩ := hs m Γ' O' hI
    refine hb σ' G' H' S'.env S'.ok _ fun c G2 H2 s e => ?_
    subst e
    cases c with
    | true => exact ⟨_, fun _ _ z => z, h1 rfl σ' G2 H2 (S'.step s)⟩
    | false => exact h2 rfl σ' G2 H2 (S'.step s)⟩
theorem q_whilex (m0 : Nat) (I : Nat → List (Option Dat) → List (Addr × List Dat) → Prop) (S : S4 W K G1 G0 H0 Γ O σ G H) (h0 : I m0 Γ O)
    (hs : ∀ m Γ' O', I m Γ' O' → ∃ b, EvBX W K tt Γ' b ∧ (b = true → ∀ σ' G' H', S4 W K G1 G0 H0 Γ' O' σ' G' H' → ts { D with nx := fun σ2 H2 => ∃ m', m' < m ∧ Word W K G1 G0 H0 (I m') σ2 H2, ct := fun σ2 H2 => ∃ m', m' < m ∧ Word W K G1 G0 H0 (I m') σ2 H2, bk := tz D } σ' H') ∧
      (b = false → ∀ σ' G' H', S4 W K G1 G0 H0 Γ' O' σ' G' H' → tz D σ' H')) : tSeq (tWhile tt ts) tz D σ H := g_whilex (D := { D with nx := tz D }) m0 I S h0 hs
end
end Ly

set_option maxHeartbeats 2000000
namespace Ly
open PySem L2
section
variable {W : Wd} {K : PySem.W.Frag} {Γ : List (Option Dat)} {ta tb tc te tl : TE} {tt tu : TT} {tA : TA} {P R S : Dat → Prop} {a b d e : Dat} {G H G2 H2 G1 G0 H0 : Hp} {O : List (Addr × List Dat)} {σ : L2.St} {D : Ends} {tz ts t1 t2 : TS}

/-! ## list comprehensions -/
/-- behind i turns: the new list at D -/
def Cm (W : Wd) (K : PySem.W.Frag) (G H : Hp) (D : Addr) (Acc : List Dat → Prop) (H' : Hp) : Prop := ∃ G' xs ds, Stp W G H G' H' ∧ H D = none ∧ G' D = none ∧ H' D = some (.lst xs) ∧ Reps K G' xs ds ∧ Acc ds
/-- one turn -/
abbrev Tn (W : Wd) (K : PySem.W.Frag) (tt : TT) (te : TE) (Γ : List (Option Dat)) (A B : List Dat → Prop) : Prop := ∀ ds, A ds → ds.length < 100000 ∧ ∃ T : Bool → Prop, EvB W K tt Γ T ∧ (T true → Ev W K te Γ fun d => B (ds ++ [d])) ∧ (T false → B ds)
theorem cm_start {Dl : Addr} (k : Ok W G H) (hD : H Dl = none) {A : List Dat → Prop} (h : A []) : Cm W K G H Dl A (upd H Dl (.lst [])) := by
  have gd : G Dl = none := by
    cases e : G Dl with
    | none => rfl
    | some u =>
      rw [k.ex Dl u e] at hD
      cases hD
  exact ⟨G, [], [], Stp.grow k (Ex.new hD), hD, gd, upd_same, .nil, h⟩
theorem cm_turn {Dl : Addr} {A B : List Dat → Prop} {H' : Hp} {σ2 : L2.St} (k : Ok W G H) (hm : ∀ G', Ex G G' → Env K G' σ2 Γ) (p : Cm W K G H Dl A H') (t : Tn W K tt te Γ A B) :
    tt σ2 H' fun b H3 => if b = true then te σ2 H3 fun y H4 => ∃ acc, H4 Dl = some (.lst acc) ∧ acc.length < sizeLine ∧ Cm W K G H Dl B (upd H4 Dl (.lst (acc ++ [y]))) else Cm W K G H Dl B H3 := by
  obtain ⟨G', xs, ds, s, hD, gD, h1, r, ha⟩ := p
  obtain ⟨hl, T, ht, hy, hn⟩ := t ds ha
  have nm : ¬ W.m Dl := fun z => by
    obtain ⟨o, ho⟩ := W.tr k.inv z
    rw [ho] at hD
    cases hD
  have k' := s.ok k
  have keepG : ∀ {G3 H3 : Hp}, Stp W G' H' G3 H3 → G3 Dl = none := fun {G3 H3} s3 => by
    cases e : G3 Dl with
    | none => rfl
    | some u =>
      rcases s3.nw Dl u e with q | q
      · rw [gD] at q
        cases q
      · rw [h1] at q
        cases q
  refine ht σ2 G' H' (hm G' s.gg) k' _ fun b G3 H3 s3 p3 => ?_
  cases b with
  | false =>
    show Cm W K G H Dl B H3
    exact ⟨G3, xs, ds, s.trans s3, hD, keepG s3, s3.hh Dl _ nm h1, r.mono s3.gg, hn p3⟩
  | true =>
    show te σ2 H3 fun y H4 => ∃ acc, H4 Dl = some (.lst acc) ∧ acc.length < sizeLine ∧ Cm W K G H Dl B (upd H4 Dl (.lst (acc ++ [y])))
    refine hy p3 σ2 G3 H3 (hm G3 (s.gg.trans s3.gg)) (s3.ok k') _ fun y d G4 H4 s4 p4 r4 => ?_
    have s34 := s3.trans s4
    have g4 := keepG s34
    have h4 := s34.hh Dl _ nm h1
    refine ⟨xs, h4, by rw [r.length]; exact sz_lt hl, ?_⟩
    have s04 := s.trans s34
    have eg : Ex G4 (upd H4 Dl (.lst (xs ++ [y]))) := fun a u e => by
      rw [upd_ne (ne_of_none e g4)]
      exact s04.gh a u e
    refine ⟨G4, xs ++ [y], ds ++ [d], ⟨s04.gg, eg, fun a u hm e => ?_, s04.nw, W.loc s04.inv fun a ha => upd_ne fun e => nm (e ▸ ha)⟩, hD, g4, upd_same, (r.mono s34.gg).append (.cons r4 .nil), p4⟩
    rw [upd_ne (ne_of_none e hD)]
    exact s04.hh a u hm e
theorem cm_end {Dl : Addr} {A : List Dat → Prop} {H' : Hp} {Q : VK} (p : Cm W K G H Dl A H') (q : ∀ p xs ds G2 H2, Stp W G H G2 H2 → H p = none → G2 p = none → H2 p = some (.lst xs) → Reps K G2 xs ds → A ds → Q (.ref p) H2) : Q (.ref Dl) H' := by
  obtain ⟨G', xs, ds, s, hD, gD, h1, r, ha⟩ := p
  exact q Dl xs ds G' H' s hD gD h1 r ha
theorem wipe1 {σ : L2.St} {j : Nat} {x : Option V} : L2.wipe ((L2.wipe σ [j]).set j x) [j] = L2.wipe σ [j] := by
  show ((σ.set j none).set j x).set j none = σ.set j none
  rw [List.set_set, List.set_set]
theorem env_turn {j : Nat} {v : V} {d : Dat} (h : Env K G σ Γ) (r : Rep K G v d) : Env K G ((L2.wipe σ [j]).set j (some v)) ((wipeG Γ [j]).set j (some d)) := (h.wipe [j]).set r
/-- over range(n) -/
theorem n_lcR {j : Nat} {R : List Dat → Prop} (A : Int → Nat → List Dat → Prop) (h : EvA W K tA Γ fun ds => ∃ n, ds = [.int n] ∧ (-100000 ≤ n ∧ n ≤ 100000) ∧ A n 0 [] ∧ (∀ i : Nat, (i : Int) < n → Tn W K tt te ((wipeG Γ [j]).set j (some (.int (i : Int)))) (A n i) (A n (i + 1))) ∧ ∀ ds, A n n.toNat ds → R ds) :
    EvN W K (tLc (iRng1 tA) (gName j) tt te [j]) Γ R := fun σ G H n k Q q =>
  h σ G H n k _ fun vs ds G2 H2 s ⟨m, e, hm, h0, ht, hR⟩ r => by
    subst e
    cases r with
    | cons r r0 =>
      cases r0
      cases r
      have k2 := s.ok k
      refine ⟨m, rfl, by omega, by omega, fun Dl hD => lc_range (lo := 0) (n := m.toNat) (fun i H' => Cm W K G2 H2 Dl (A m i) H') (cm_start k2 hD h0) (fun i H' hi p => ?_) (fun H' p => ?_)⟩
      · refine ⟨wipe1, ?_⟩
        rw [Int.zero_add]
        exact cm_turn k2 (fun G' e => env_turn (n.mono (s.gg.trans e)) (.int _)) p (ht i (by omega))
      · exact cm_end p fun p xs ds G3 H3 s3 h0 g3 h3 r a => q p xs ds G3 H3 (s.trans s3) (back s h0).1 g3 h3 r (hR ds a)
/-- over a list that is known -/
theorem n_lcL {j : Nat} {R : List Dat → Prop} {us : List Dat} (A : Nat → List Dat → Prop) (h : EvX W K tl Γ (.lst us)) (h0 : A 0 []) (ht : ∀ i d, us[i]? = some d → Tn W K tt te ((wipeG Γ [j]).set j (some d)) (A i) (A (i + 1))) (hR : ∀ ds, A us.length ds → R ds) :
    EvN W K (tLc (iList K tl) (gName j) tt te [j]) Γ R := fun σ G H n k Q q =>
  h σ G H n k _ fun v d G2 H2 s e r => by
    subst e
    obtain ⟨a, xs, rfl, hx, r⟩ := r.lst_inv
    have k2 := s.ok k
    refine ⟨a, rfl, ⟨xs, ex_l k2.ex hx⟩, fun Dl hD => lc_list (xs := xs) (fun i H' => Cm W K G2 H2 Dl (A i) H') (cm_start k2 hD h0) (fun i H' _ p => ?_) (fun i x H' hi p => ?_) (fun H' p => ?_)⟩
    · obtain ⟨G', _, _, s', _⟩ := p
      exact ex_l (s'.gg.trans s'.gh) hx
    · obtain ⟨d, hd, rd⟩ := r.getV hi
      exact ⟨wipe1, cm_turn k2 (fun G' e => env_turn (n.mono (s.gg.trans e)) (rd.mono e)) p (ht i d hd)⟩
    · rw [r.length] at p
      exact cm_end p fun p xs ds G3 H3 s3 h0 g3 h3 r a => q p xs ds G3 H3 (s.trans s3) (back s h0).1 g3 h3 r (hR ds a)
theorem n_lcT {j : Nat} {R : List Dat → Prop} {us : List Dat} (A : Nat → List Dat → Prop) (h : EvX W K tl Γ (.tup us)) (h0 : A 0 []) (ht : ∀ i d, us[i]? = some d → Tn W K tt te ((wipeG Γ [j]).set j (some d)) (A i) (A (i + 1))) (hR : ∀ ds, A us.length ds → R ds) :
    EvN W K (tLc (iTup K tl) (gName j) tt te [j]) Γ R := fun σ G H n k Q q =>
  h σ G H n k _ fun v d G2 H2 s e r => by
    subst e
    obtain ⟨a, xs, rfl, hx, r⟩ := r.tup_inv
    have k2 := s.ok k
    refine ⟨a, rfl, ⟨xs, ex_t k2.ex hx⟩, fun Dl hD => lc_tup (xs := xs) (fun i H' => Cm W K G2 H2 Dl (A i) H') (cm_start k2 hD h0) (fun i H' _ p => ?_) (fun i x H' hi p => ?_) (fun H' p => ?_)⟩
    · obtain ⟨G', _, _, s', _⟩ := p
      exact ex_t (s'.gg.trans s'.gh) hx
    · obtain ⟨d, hd, rd⟩ := r.getV hi
      exact ⟨wipe1, cm_turn k2 (fun G' e => env_turn (n.mono (s.gg.trans e)) (rd.mono e)) p (ht i d hd)⟩
    · rw [r.length] at p
      exact cm_end p fun p xs ds G3 H3 s3 h0 g3 h3 r a => q p xs ds G3 H3 (s.trans s3) (back s h0).1 g3 h3 r (hR ds a)
theorem b_yes : EvB W K tYes Γ (· = true) := fun σ G H n k Q q => q true G H (Stp.refl k) rfl
/-- a turn without a test -/
theorem tn_each {A B : List Dat → Prop} {Γ : List (Option Dat)} (hl : ∀ ds, A ds → ds.length < 100000) (h : ∀ ds, A ds → Ev W K te Γ fun d => B (ds ++ [d])) : Tn W K tYes te Γ A B := fun ds a => ⟨hl ds a, _, b_yes, fun _ => h ds a, fun e => nomatch e⟩
/-- what n turns give, each a P -/
def Each (P : Nat → Dat → Prop) (n : Nat) (ds : List Dat) : Prop := ds.length = n ∧ ∀ i d, ds[i]? = some d → P i d
theorem Each.nil {P : Nat → Dat → Prop} : Each P 0 [] := ⟨rfl, fun _ _ h => by simp at h⟩
theorem Each.add {P : Nat → Dat → Prop} {n : Nat} {ds : List Dat} {d : Dat} (h : Each P n ds) (p : P n d) : Each P (n + 1) (ds ++ [d]) := by
  refine ⟨by rw [List.length_append, h.1]; rfl, fun i u hi => ?_⟩
  by_cases hl : i < ds.length
  · rw [List.getElem?_append_left hl] at hi
    exact h.2 i u hi
  · rw [List.getElem?_append_right (by omega)] at hi
    have hz : i - ds.length = 0 := by
      rcases Nat.eq_zero_or_pos (i - ds.length) with z | z
      · exact z
      · rw [List.getElem?_eq_none (by simp; omega)] at hi
        cases hi
    rw [hz] at hi
    have e : d = u := Option.some.inj hi
    have e2 : i = n := by have := h.1; omega
    rw [← e, e2]
    exact p
end
end Ly

set_option maxHeartbeats 2000000
namespace Ly
open PySem L2 PySem.Spec PyProof.Rows HT
/-! ## t[::-1] of a tuple -/
section
variable {prog : Program} {w : World} {A : Around} {E : Value → Shared → Prop} {s : Shared}
theorem adjust_rev (n : Nat) : Builtin.Slice.sliceAdjust none none (-1) (n : Int) = ((n : Int) - 1, -1) := by
  unfold Builtin.Slice.sliceAdjust
  simp
theorem places_rev (n : Nat) : Builtin.Slice.slicePlaces ((n : Int) - 1) (-1) (-1) = n := by
  unfold Builtin.Slice.slicePlaces
  have h1 : ¬ ((-1 : Int) > 0) := by decide
  rw [if_neg h1]
  split
  · have e : ((n : Int) - 1 - -1 - 1) / (- -1) = (n : Int) - 1 := by
      rw [show (- -1 : Int) = 1 by decide, Int.ediv_one]
      omega
    rw [e]
    omega
  · omega
theorem sliceApplied_rev {sl : Addr} {vl vu vs : Value} {n : Nat} {Q : Int × Int × Nat → Shared → Prop} (hs : s.heap.IsSliceOf sl vl vu vs) (pl : IsPart vl none) (pu : IsPart vu none) (ps : IsPart vs (some (-1)))
    (h : Q ((n : Int) - 1, -1, n) s) : wpAny (model prog w) A (Builtin.Slice.sliceApplied (.ref sl) (pure (n : Int))) Q E s := by
  obtain ⟨os, hos, hcs, hds⟩ := id hs
  unfold Builtin.Slice.sliceApplied Builtin.Slice.sliceFields
  refine wpAny_bind (wpAny_bind (wpAny_field hos hds (x := vl) rfl (wpAny_bind (wpAny_field hos hds (x := vu) rfl (wpAny_bind (wpAny_field hos hds (x := vs) rfl (wpAny_pure ?_)))))))
  refine wpAny_bind (slicePart_ ps ?_)
  show wpAny _ _ (if ((-1 : Int) == 0) = true then _ else _) _ _ s
  rw [if_neg (by decide)]
  refine wpAny_bind (slicePart_ pl (wpAny_bind (slicePart_ pu (wpAny_bind (wpAny_pure ?_)))))
  show wpAny _ _ (match Builtin.Slice.sliceAdjust none none (-1) (n : Int) with | (lo, hi) => pure (lo, (-1 : Int), Builtin.Slice.slicePlaces lo hi (-1))) _ _ s
  rw [adjust_rev n]
  show wpAny _ _ (pure ((n : Int) - 1, (-1 : Int), Builtin.Slice.slicePlaces ((n : Int) - 1) (-1) (-1))) _ _ s
  rw [places_rev]
  exact wpAny_pure h
theorem fm_rev (xs : Array Value) : ((List.range xs.size).filterMap fun (m : Nat) => xs[(((xs.size : Nat) : Int) - 1 + (m : Int) * (-1)).toNat]?) = xs.toList.reverse := by
  have e : (fun (m : Nat) => xs[(((xs.size : Nat) : Int) - 1 + (m : Int) * (-1)).toNat]?) = ((fun x => xs[x]?) ∘ fun m => xs.size - 1 - m) := by
    funext m
    have q : (((xs.size : Nat) : Int) - 1 + (m : Int) * (-1)).toNat = xs.size - 1 - m := by omega
    rw [q]
    rfl
  rw [e, ← List.filterMap_map, PySem.W.krv_range, List.filterMap_reverse, PySem.W.krv_all]
theorem getItem_tuple_rev {t sl : Addr} {items : Array Value} {vl vu vs : Value} {Q : Value → Shared → Prop} (ht : IsTup s.heap t items) (hs : s.heap.IsSliceOf sl vl vu vs) (pl : IsPart vl none) (pu : IsPart vu none) (ps : IsPart vs (some (-1)))
    (h : Q (.ref s.heap.objs.size) { s with heap := s.heap.push { cls := .type "tuple", data := .seq items.toList.reverse.toArray } }) (hsz : items.size ≤ sizeLine) : wpAny (model prog w) A (getItem (.ref t) (.ref sl)) Q E s := by
  have htake : sizeOk (.seq items.toList.reverse.toArray) := by
    show items.toList.reverse.toArray.size ≤ sizeLine
    rw [List.size_toArray, List.length_reverse, Array.length_toList]
    exact hsz
  obtain ⟨os, hos, hcs, hds⟩ := id hs
  have hTs : s.TypeIs (.ref sl) "slice" := ⟨os, hos, hcs⟩
  unfold getItem
  try with_reducible refine wpAny_holding ?_
  first | refine wpAny_bind (wpAny_pure ?_) | skip
  refine wpAny_bind (wpAny_sequenceKey ht.typeIs (by decide) ?_)
  refine wpAny_bind (wpAny_callSpecial?_slot (name := Str.ofString "__getitem__") ht.typeIs PyProof.Rows.slot_tuple_getitem
    (wpAny_call_entry PyProof.Rows.slot_tuple_getitem ht.typeIs entry_tuple_getitem ?_ (args_tuple_getitem _ _)))
  show wpAny _ _ (Builtin.Tuple.tupleItemsOf (.ref t) >>= _) _ _ s
  refine wpAny_bind (tupleItemsOf_ ht ?_)
  refine wpAny_bind (wpAny_typeOf hTs ?_)
  rw [if_pos (by decide)]
  refine wpAny_bind (sliceApplied_rev hs pl pu ps ?_)
  have hno : ¬ ((((items.size : Nat) : Int) - 1 == 0 && (-1 : Int) == 1 && items.size == items.size) = true) := by
    intro q
    rw [Bool.and_eq_true, Bool.and_eq_true] at q
    exact absurd q.1.2 (by decide)
  show wpAny _ _ (if (((items.size : Nat) : Int) - 1 == 0 && (-1 : Int) == 1 && items.size == items.size) = true then _ else _) _ _ s
  rw [if_neg hno, fm_rev]
  first
    | exact wpAny_bind (m := Builtin.Tuple.tupleExact _) (wpAny_newObj_type (wpAny_pure ⟨_, rfl, wpAny_pure h⟩) htake)
    | exact wpAny_bind (m := Builtin.Tuple.tupleExact _) (wpAny_newObj_type (wpAny_bind (wpAny_pure (wpAny_pure ⟨_, rfl, wpAny_pure h⟩))) htake)
    | exact wpAny_bind (wpAny_bind (m := Builtin.Tuple.tupleExact _) (wpAny_newObj_type (wpAny_pure (wpAny_pure ⟨_, rfl, wpAny_pure h⟩)) htake))
    | exact wpAny_bind (wpAny_bind (m := Builtin.Tuple.tupleExact _) (wpAny_newObj_type (wpAny_pure ⟨_, rfl, wpAny_pure h⟩) htake))
end
section
variable {X : Cx}
def tRevT (K : PySem.W.Frag) (te : TE) : TE := fun σ H Q => te σ H fun x H1 => ∃ a xs, x = .ref a ∧ SqT K H1 a xs ∧ ∀ p, H1 p = none → Q (.ref p) (upd H1 p (.tup xs.reverse))
theorem pe_revT {e : Expr} {te : TE} {k : Nat} {p1 p2 p3 pos : Pos} (he : PE X e te) : PE X (.Subscript e (.Slice none none (some (.UnaryOp .USub (.Constant (.int 1) k p1) p2)) p3) pos) (tRevT X.K te) := by
  refine ⟨fun pins s σ H Q I h => ?_⟩
  refine Subscript_ (thn (he.run pins s σ H _ I h) fun v s1 ⟨x, H1, I1, r1, q1⟩ => ?_)
  obtain ⟨a, xs, ex, hx, q⟩ := q1
  subst ex
  cases r1
  have hst : PO X (some (.UnaryOp .USub (.Constant (.int 1) k p1) p2)) (tPart (tUn (rU fun i => .int (-i)) (tC (.int 1)))) := po_some (pe_un un_neg pe_int)
  refine wpAny_Slice (thn (po_none.run pins s1 σ H1 (fun o H2 => o = none ∧ H2 = H1) I1 ⟨rfl, rfl⟩) fun vl s2 ⟨l, H2, I2, pl, el, e2⟩ => ?_)
  subst el e2
  refine thn (po_none.run pins s2 σ H2 (fun o H3 => o = none ∧ H3 = H2) I2 ⟨rfl, rfl⟩) fun vu s3 ⟨u, H3, I3, pu, eu, e3⟩ => ?_
  subst eu e3
  refine thn (hst.run pins s3 σ H3 (fun o H4 => o = some (-1) ∧ H4 = H3) I3 ⟨1, rfl, -1, rfl, rfl, rfl⟩) fun vs s4 ⟨o, H4, I4, ps, eo, e4⟩ => ?_
  subst eo e4
  have I5 : Inv X pins σ H4 { s4 with heap := s4.heap.push { cls := .type "slice", data := .fields #[vl, vu, vs] } } := I4.kept (t' := s4.toks) fun b ob q => Heap.get?_push_of_some _ q
  obtain ⟨its, r, ht, hz⟩ := I5.tuple hx
  have hlen := r.length
  show wpAny (model X.prog X.w) X.A (subscriptTail e (.Slice none none (some (.UnaryOp .USub (.Constant (.int 1) k p1) p2)) p3) (.ref a) (.ref s4.heap.objs.size)) (EP X pins σ Q) X.xe { s4 with heap := s4.heap.push { cls := .type "slice", data := .fields #[vl, vu, vs] } }
  refine tail_any (ops := [.ref a, .ref s4.heap.objs.size]) ht.typeIs PyProof.Rows.slot_tuple_getitem.lookup ?_ (by with_unfolding_all rfl)
  refine getItem_tuple_rev ht (Heap.IsSliceOf.new _ vl vu vs) pl pu ps ?_ (by rw [List.size_toArray]; omega)
  refine ⟨.ref _, _, I5.laid (t' := s4.toks) (o := .tup xs.reverse) (fun b ob q => Heap.get?_push_of_some _ q) (Nat.le_refl _) ?_, rfl, q _ (I5.hok.fresh (Nat.le_refl _))⟩
  exact ⟨by rw [List.length_reverse]; exact hz, _, r.reverse, IsTup.new _ _⟩
end
section
variable {W : Wd} {K : PySem.W.Frag} {Γ : List (Option Dat)} {ta tb tc te tl : TE} {tt tu : TT} {tA : TA} {P R S : Dat → Prop} {a b d e : Dat} {G H G2 H2 G1 G0 H0 : Hp} {O : List (Addr × List Dat)} {σ : L2.St} {D : Ends} {tz ts t1 t2 : TS}
theorem v_revT {ds : List Dat} (h : EvX W K te Γ (.tup ds)) : EvX W K (tRevT K te) Γ (.tup ds.reverse) := fun σ G H n k Q q =>
  h σ G H n k _ fun v d G2 H2 s e r => by
    subst e
    obtain ⟨a, xs, rfl, hx, r⟩ := r.tup_inv
    have k2 := s.ok k
    exact ⟨a, xs, rfl, ex_t k2.ex hx, fun p hp => (q.step s) _ _ _ _ (Stp.new k2 hp) rfl (.tup (t_of upd_same) (r.reverse.mono (Stp.new k2 hp (W := W)).gg))⟩
end
/-! ## == of data -/
mutual
def toPy : Dat → PyData
  | .non => .none | .bl b => .bool b | .int i => .int i | .str x => .str x | .tup ds => .tuple (toPys ds) | .lst ds => .list (toPys ds) | .adr _ => .none | .obj _ _ => .none | .dct _ => .none | .dcs _ => .none
def toPys : List Dat → List PyData
  | [] => []
  | d :: ds => toPy d :: toPys ds
end
mutual
/-- data of scalars, tuples, lists, nested at most n deep -/
def Pl : Nat → Dat → Prop
  | _, .non => True
  | _, .bl _ => True
  | _, .int _ => True
  | _, .str x => PyData.strOk x = true
  | _, .adr _ => False
  | _, .obj _ _ => False
  | _, .dct _ => False
  | _, .dcs _ => False
  | 0, .tup _ => False
  | 0, .lst _ => False
  | n + 1, .tup ds => ds.length ≤ 40000 ∧ Pls n ds
  | n + 1, .lst ds => ds.length ≤ 40000 ∧ Pls n ds
def Pls : Nat → List Dat → Prop
  | _, [] => True
  | n, d :: ds => Pl n d ∧ Pls n ds
end
theorem Pls.get {n : Nat} : ∀ {ds : List Dat} {i : Nat} {d : Dat}, Pls n ds → ds[i]? = some d → Pl n d
  | [], _, _, _, h => by simp at h
  | _ :: _, 0, _, p, h => by
    have e := Option.some.inj h
    subst e
    unfold Pls at p
    exact p.1
  | _ :: ds, i + 1, d, p, h => by
    rw [List.getElem?_cons_succ] at h
    unfold Pls at p
    exact Pls.get p.2 h
theorem Pls.ints {n : Nat} : ∀ (ns : List Int), Pls n (ns.map Dat.int)
  | [] => by simp [Pls]
  | x :: ns => by
    rw [List.map_cons, Pls]
    exact ⟨by simp [Pl], Pls.ints ns⟩
theorem Pl.ints {n : Nat} {ns : List Int} (h : ns.length ≤ 40000) : Pl (n + 1) (.tup (ns.map Dat.int)) := by
  rw [Pl]
  exact ⟨by rw [List.length_map]; exact h, Pls.ints ns⟩
mutual
theorem Pl.lay : ∀ (n : Nat) (d : Dat), Pl n d → (toPy d).canLay0 = true
  | _, .non, _ => by simp [toPy, PyData.canLay0]
  | _, .bl _, _ => by simp [toPy, PyData.canLay0]
  | _, .int _, _ => by simp [toPy, PyData.canLay0]
  | n, .str x, h => by
    have h : PyData.strOk x = true := by cases n <;> simpa [Pl] using h
    simp [toPy, PyData.canLay0, h]
  | n, .adr _, h => by cases n <;> simp [Pl] at h
  | n, .obj _ _, h => by cases n <;> simp [Pl] at h
  | n, .dct _, h => by cases n <;> simp [Pl] at h
  | n, .dcs _, h => by cases n <;> simp [Pl] at h
  | 0, .tup _, h => by simp [Pl] at h
  | 0, .lst _, h => by simp [Pl] at h
  | n + 1, .tup ds, h => by
    rw [Pl] at h
    simp only [toPy, PyData.canLay0]
    exact Pls.lay n ds h.2
  | n + 1, .lst ds, h => by
    rw [Pl] at h
    simp only [toPy, PyData.canLay0]
    exact Pls.lay n ds h.2
theorem Pls.lay : ∀ (n : Nat) (d : List Dat), Pls n d → PyData.canLayAll0 (toPys d) = true
  | _, [], _ => by simp [toPys, PyData.canLayAll0]
  | n, d :: ds, h => by
    rw [Pls] at h
    simp only [toPys, PyData.canLayAll0, Pl.lay n d h.1, Pls.lay n ds h.2, Bool.and_self]
end
mutual
theorem Pl.depth : ∀ (n : Nat) (d : Dat), Pl n d → (toPy d).depth ≤ n
  | _, .non, _ => by simp [toPy, PyData.depth]
  | _, .bl _, _ => by simp [toPy, PyData.depth]
  | _, .int _, _ => by simp [toPy, PyData.depth]
  | _, .str x, h => by simp [toPy, PyData.depth]
  | n, .adr _, h => by cases n <;> simp [Pl] at h
  | n, .obj _ _, h => by cases n <;> simp [Pl] at h
  | n, .dct _, h => by cases n <;> simp [Pl] at h
  | n, .dcs _, h => by cases n <;> simp [Pl] at h
  | 0, .tup _, h => by simp [Pl] at h
  | 0, .lst _, h => by simp [Pl] at h
  | n + 1, .tup ds, h => by
    rw [Pl] at h
    simp only [toPy, PyData.depth]
    have := Pls.depth n ds h.2
    omega
  | n + 1, .lst ds, h => by
    rw [Pl] at h
    simp only [toPy, PyData.depth]
    have := Pls.depth n ds h.2
    omega
theorem Pls.depth : ∀ (n : Nat) (d : List Dat), Pls n d → PyData.depthAll (toPys d) ≤ n
  | _, [], _ => by simp [toPys, PyData.depthAll]
  | n, d :: ds, h => by
    rw [Pls] at h
    simp only [toPys, PyData.depthAll]
    have h1 := Pl.depth n d h.1
    have h2 := Pls.depth n ds h.2
    omega
end
theorem Pl.shaped {n : Nat} {d : Dat} (h : Pl n d) (hn : n ≤ 64) : SeqAt.shaped (toPy d) = true := by
  unfold SeqAt.shaped
  rw [h.lay, decide_eq_true (Nat.le_trans h.depth hn)]
  rfl
section
variable {K : PySem.W.Frag} {G H : Hp}
mutual
theorem Rep.dp (e : Ex G H) : ∀ {v : V} {d : Dat} (n : Nat), Pl n d → Rep K G v d → Dp K H v (toPy d)
  | _, _, _, _, .non => .non
  | _, _, _, _, .bl b => .bl b
  | _, _, _, _, .int i => .int i
  | _, _, _, _, .str x => .str x
  | _, _, n, h, .adr _ => by cases n <;> simp [Pl] at h
  | _, _, n, h, .obj _ _ => by cases n <;> simp [Pl] at h
  | _, _, n, h, .dct _ _ => by cases n <;> simp [Pl] at h
  | _, _, n, h, .dcs _ _ => by cases n <;> simp [Pl] at h
  | _, _, 0, h, .tup _ _ => by simp [Pl] at h
  | _, _, 0, h, .lst _ _ => by simp [Pl] at h
  | _, _, n + 1, h, .tup s r => by
    rw [Pl] at h
    simp only [toPy]
    exact .tup (ex_t e s) (Reps.dp e n h.2 r)
  | _, _, n + 1, h, .lst s r => by
    rw [Pl] at h
    simp only [toPy]
    exact .lst (ex_l e s) (Reps.dp e n h.2 r)
theorem Reps.dp (e : Ex G H) : ∀ {v : List V} {d : List Dat} (n : Nat), Pls n d → Reps K G v d → DpAll K H v (toPys d)
  | _, _, _, _, .nil => .nil
  | _, _, n, h, .cons r rs => by
    rw [Pls] at h
    simp only [toPys]
    exact .cons (Rep.dp e n h.1 r) (Reps.dp e n h.2 rs)
end
end
section
variable {W : Wd} {K : PySem.W.Frag} {Γ : List (Option Dat)} {ta tb : TE} {a b : Dat} {n : Nat}
theorem v_eqD (ha : EvX W K ta Γ a) (hb : EvX W K tb Γ b) (pa : Pl n a) (pb : Pl n b) (hn : n ≤ 64) : EvX W K (tOp (rEqD K) ta tb) Γ (.bl (PyData.eqv (toPy a) (toPy b))) := v_opx ha hb fun G H x y k rx ry Q q =>
  ⟨_, _, Rep.dp k.ex n pa rx, Rep.dp k.ex n pb ry, pa.shaped hn, pb.shaped hn, q.here k (.bl _) rfl⟩
theorem v_neD (ha : EvX W K ta Γ a) (hb : EvX W K tb Γ b) (pa : Pl n a) (pb : Pl n b) (hn : n ≤ 64) : EvX W K (tOp (rNeD K) ta tb) Γ (.bl (!PyData.eqv (toPy a) (toPy b))) := v_opx ha hb fun G H x y k rx ry Q q =>
  ⟨_, _, Rep.dp k.ex n pa rx, Rep.dp k.ex n pb ry, pa.shaped hn, pb.shaped hn, q.here k (.bl _) rfl⟩
theorem eqvs_ints : ∀ (ns ms : List Int), PyData.eqvAll (toPys (ns.map Dat.int)) (toPys (ms.map Dat.int)) = decide (ns = ms)
  | [], [] => by simp [toPys, PyData.eqvAll]
  | [], m :: ms => by simp [toPys, PyData.eqvAll]
  | n :: ns, [] => by simp [toPys, PyData.eqvAll]
  | n :: ns, m :: ms => by
    simp only [List.map_cons, toPys, toPy, PyData.eqvAll, PyData.eqv, eqvs_ints ns ms]
    by_cases h : n = m
    · subst h
      simp
    · have : (n == m) = false := by simpa using h
      rw [this]
      simp [h]
theorem eqv_ints (ns ms : List Int) : PyData.eqv (toPy (.tup (ns.map Dat.int))) (toPy (.tup (ms.map Dat.int))) = decide (ns = ms) := by
  simp only [toPy, PyData.eqv]
  exact eqvs_ints ns ms
/-- a tuple's, a list's truth -/
abbrev tTruth (K : PySem.W.Frag) (ta : TE) : TT := fun σ H Q => ta σ H fun x H' => ∃ k, TruV K x H' k ∧ Q k H'
theorem b_truT {ds : List Dat} (h : EvX W K ta Γ (.tup ds)) : EvBX W K (tTruth K ta) Γ (!ds.isEmpty) := fun σ G H n k Q q => h σ G H n k _ fun v d G2 H2 s e r => by
  subst e
  obtain ⟨a, xs, rfl, hx, r⟩ := r.tup_inv
  refine ⟨!xs.isEmpty, .inr (.inl ⟨xs, ex_t (s.ok k).ex hx, rfl⟩), q _ G2 H2 s ?_⟩
  cases r <;> rfl
end
/-! ## the pool of draws -/
/-- the pool at p, its script at c; what stands in it -/
def WQ (p c : Addr) (ns : List Int) (i z k s : Int) : Wd where
  m := fun a => a = p ∨ a = c
  I := fun H => p ≠ c ∧ H c = some (.lst (ns.map V.int)) ∧ H p = some (.lst [.ref c, .int i, .int z, .int k, .int s])
  loc := fun h e => ⟨h.1, by rw [e _ (.inr rfl)]; exact h.2.1, by rw [e _ (.inl rfl)]; exact h.2.2⟩
  tr := fun h hm => by
    rcases hm with rfl | rfl
    · exact ⟨_, h.2.2⟩
    · exact ⟨_, h.2.1⟩
def WP (p c : Addr) (ns : List Int) : Wd where
  m := fun a => a = p ∨ a = c
  I := fun H => p ≠ c ∧ H c = some (.lst (ns.map V.int)) ∧ ∃ i z k s : Int, 0 ≤ i ∧ H p = some (.lst [.ref c, .int i, .int z, .int k, .int s])
  loc := fun h e => ⟨h.1, by rw [e _ (.inr rfl)]; exact h.2.1, by
    obtain ⟨i, z, k, s, h0, h1⟩ := h.2.2
    exact ⟨i, z, k, s, h0, by rw [e _ (.inl rfl)]; exact h1⟩⟩
  tr := fun h hm => by
    rcases hm with rfl | rfl
    · obtain ⟨i, z, k, s, h0, h1⟩ := h.2.2
      exact ⟨_, h1⟩
    · exact ⟨_, h.2.1⟩
section
variable {p c : Addr} {ns : List Int} {i z k s : Int} {K : PySem.W.Frag} {Γ : List (Option Dat)} {ta tb te : TE} {a b d : Dat} {G H G2 H2 G1 G0 H0 : Hp} {O : List (Addr × List Dat)} {σ : L2.St} {D : Ends} {tz : TS} {P : Dat → Prop}
/-- the pool's cells -/
def cellQ (c : Addr) (i z k s : Int) : List Dat := [.adr c, .int i, .int z, .int k, .int s]
def cellV (c : Addr) (i z k s : Int) : List V := [.ref c, .int i, .int z, .int k, .int s]
end
end Ly

set_option maxHeartbeats 2000000
namespace Ly
open PySem L2 PySem.Spec PyProof.Rows
/-! ## the defs of the text -/
def Df (K : PySem.W.Frag) (mg : Str → Option Value) (x : Str) (st : Stmt) : Prop := ∃ f fd, Fun K x x st f fd ∧ mg x = some (.ref f)
section
variable {P : Program} {w : World} {K : PySem.W.Frag} {mg : Str → Option Value} {base : Heap}
theorem cal_of {x : Str} {st : Stmt} {N ps : List Str} {k : Nat} {sp : Sp} (D : Df K mg x st)
    (hb : ∀ (kV doc pm : Value) (an : Option Addr) (cdv ct : Value) (us : List Value), us.length = ps.length → bindArgs (PySem.W.fnOf x x (defArgs st) (defBody st) (defScope st) .none kV doc pm an cdv ct) ⟨us, []⟩ = pure (ps.zip us))
    (S : FnScope N ps (defScope st)) (len : ∀ vs H Q E, sp vs H Q E → vs.length = ps.length)
    (hbody : ∀ (f : Addr) (cdv : Value) (A : Around) (outer : List PySem.Env) (s : Shared) (H : Hp) (vs : List V) (Q : VK) (E : XK), Room k (A.deeper (envOfC x (defScope st) s.heap.objs.size f cdv)) → sp vs H Q E →
      ∃ t, PSs (cxOf CX0 P w K mg base N x (defScope st) f cdv A outer s H E).nox (defBody st) t ∧ t { nx := fun _ H' => Q .non H', rt := Q } (L2.start N vs) H) : C8.Cal P w K mg base (k + 1) x sp [] := by
  obtain ⟨f, fd, F, hm⟩ := D
  exact ⟨⟨f, fd, ps, [], F.ok S len (hbody f), hm, F.kp, F.binds hb, .nil⟩⟩
end
section
variable {W : Wd} {K : PySem.W.Frag} {Γ : List (Option Dat)} {ta tb tc te tl : TE} {tt tu : TT} {tA : TA} {d : Dat}
theorem v_cn {v : V} {d : Dat} (h : ∀ G, Rep K G v d) : EvX W K (tC v) Γ d := fun σ G H n k Q q => q.here k (h G) rfl
theorem v_ix0 {ds : List Dat} (ha : EvX W K ta Γ (.tup ds)) (h : ds[0]? = some d) : EvX W K (tOp (rIxT K) ta (tC (.int 0))) Γ d := v_ixT (j := 0) ha v_int rfl h
variable {G1 G0 H0 G H : Hp} {O : List (Addr × List Dat)} {σ : L2.St} {D : Ends} {tz : TS}
theorem g_aug {i : Nat} {f : Int → Int → Int} {a b : Int} (hx : Γ[i]? = some (some (.int a))) (h : EvX W K te Γ (.int b)) (S : S4 W K G1 G0 H0 Γ O σ G H) (k : ∀ σ2 G2 H2, S4 W K G1 G0 H0 (Γ.set i (some (.int (f a b)))) O σ2 G2 H2 → D.nx σ2 H2) : tAug i te (ipI f) D σ H := by
  obtain ⟨v, h1, h2⟩ := S.env.at' i _ hx
  cases h2
  refine ⟨.int a, h1, h σ G H S.env S.ok _ fun y d G2 H2 s e r => ?_⟩
  subst e
  cases r
  exact ⟨a, b, rfl, rfl, k _ G2 H2 ((S.step s).set (.int _))⟩
/-! ## subscripts of lists and tuples alike -/
theorem v_ixDT {ds : List Dat} {i : Int} {j : Nat} (ha : EvX W K ta Γ (.tup ds)) (hb : EvX W K tb Γ (.int i)) (e : i = (j : Int)) (h : ds[j]? = some d) : EvX W K (tOp (rIx K) ta tb) Γ d := v_opx ha (e ▸ hb) fun G H x y k rx ry Q q => .inr (.inl (rv_ixT h G H x y k rx ry Q q))
theorem v_ixDL {ds : List Dat} {i : Int} {j : Nat} (ha : EvX W K ta Γ (.lst ds)) (hb : EvX W K tb Γ (.int i)) (e : i = (j : Int)) (h : ds[j]? = some d) : EvX W K (tOp (rIx K) ta tb) Γ d := v_opx ha (e ▸ hb) fun G H x y k rx ry Q q => .inl (rv_ixL h G H x y k rx ry Q q)
/-- isinstance(x, T) by the data -/
theorem v_is {i : Nat} {T : String} {c : Bool} (h : Γ[i]? = some (some d)) (ht : typed d = true) (hk : kitB (tyN d) T = some c) : EvX W K (tCB (rIsi K) (tCons (tVar i) (tCons (tC (.ty T)) tNil))) Γ (.bl c) := v_isi (v_var h) ht (kit_ty hk)
abbrev rDivmod : List V → Hp → VK → Prop := fun xs H Q => ∃ i j, xs = [.int i, .int j] ∧ CDivP i j ∧ ∀ p, H p = none → Q (.ref p) (upd H p (.tup [.int (i / j), .int (i % j)]))
theorem v_divmod {i j : Int} (ha : EvX W K ta Γ (.int i)) (hb : EvX W K tb Γ (.int j)) (hc : CDivP i j) : EvX W K (tCB rDivmod (tCons ta (tCons tb tNil))) Γ (.tup [.int (i / j), .int (i % j)]) := v_cbx (a_consx ha (a_consx hb a_nil)) fun G H xs k r Q q => by
  cases r with
  | cons r1 r =>
    cases r with
    | cons r2 r =>
      cases r
      cases r1
      cases r2
      exact ⟨i, j, rfl, hc, fun p hp => q _ _ _ _ (Stp.new k hp) rfl (.tup (t_of upd_same) (.cons (.int _) (.cons (.int _) .nil)))⟩
/-! ## the pool of draws: its defs' promises -/
abbrev dI (ns : List Int) : List Dat := ns.map Dat.int
def spPool (K : PySem.W.Frag) : Sp := fun vs H Q _ => ∃ G ns, Ok Wd0 G H ∧ Reps K G vs [.lst (dI ns)] ∧ ns.length ≤ 63 ∧ ∀ p c H2, Ex H H2 → H p = none → H c = none → (WP p c ns).I H2 → Q (.ref p) H2
/-- of a draw: from 0 to many - 1 -/
def Drawn (m : Int) : Dat → Prop := fun d => ∃ v, d = .int v ∧ 0 ≤ v ∧ v < m
def A_draw (p : Addr) : Sig := fun ds P => ∃ m : Int, 0 < m ∧ m < 1000000000 ∧ ds = [.adr p, .int m] ∧ P = Drawn m
def spDraw (K : PySem.W.Frag) : Sp := fun vs H Q E => ∃ p c ns, spOf (WP p c ns) K (A_draw p) vs H Q E
variable {p c : Addr} {ns : List Int} {E : XK}
/-- the promise of the comparing def, for data nested at most n deep -/
def A_like (n : Nat) : Sig := fun ds P => ∃ d, Pl n d ∧ ds = [d, d] ∧ P = (· = .bl true)
def A_spread : Sig := fun ds P => ∃ x : Int, ds = [.int x] ∧ P = fun d => ∃ v, d = .int v
theorem EvN.evx {R : List Dat → Prop} {es : List Dat} (h : EvN W K te Γ R) (i : ∀ ds, R ds → ds = es) : EvX W K te Γ (.lst es) := EvN.ev h fun ds r => by rw [i ds r]
end
theorem kb_bool_bool : kitB "bool" "bool" = some true := by decide +kernel
theorem kb_bool_int : kitB "bool" "int" = some true := by decide +kernel
theorem kb_bool_str : kitB "bool" "str" = some false := by decide +kernel
theorem kb_bool_tuple : kitB "bool" "tuple" = some false := by decide +kernel
theorem kb_bool_list : kitB "bool" "list" = some false := by decide +kernel
theorem kb_int_bool : kitB "int" "bool" = some false := by decide +kernel
theorem kb_int_int : kitB "int" "int" = some true := by decide +kernel
theorem kb_int_str : kitB "int" "str" = some false := by decide +kernel
theorem kb_int_tuple : kitB "int" "tuple" = some false := by decide +kernel
theorem kb_int_list : kitB "int" "list" = some false := by decide +kernel
theorem kb_str_bool : kitB "str" "bool" = some false := by decide +kernel
theorem kb_str_int : kitB "str" "int" = some false := by decide +kernel
theorem kb_str_str : kitB "str" "str" = some true := by decide +kernel
theorem kb_str_tuple : kitB "str" "tuple" = some false := by decide +kernel
theorem kb_str_list : kitB "str" "list" = some false := by decide +kernel
theorem kb_tuple_bool : kitB "tuple" "bool" = some false := by decide +kernel
theorem kb_tuple_int : kitB "tuple" "int" = some false := by decide +kernel
theorem kb_tuple_str : kitB "tuple" "str" = some false := by decide +kernel
theorem kb_tuple_tuple : kitB "tuple" "tuple" = some true := by decide +kernel
theorem kb_tuple_list : kitB "tuple" "list" = some false := by decide +kernel
theorem kb_list_bool : kitB "list" "bool" = some false := by decide +kernel
theorem kb_list_int : kitB "list" "int" = some false := by decide +kernel
theorem kb_list_str : kitB "list" "str" = some false := by decide +kernel
theorem kb_list_tuple : kitB "list" "tuple" = some false := by decide +kernel
theorem kb_list_list : kitB "list" "list" = some true := by decide +kernel
end Ly

set_option maxHeartbeats 2000000
namespace Ly
open PySem L2 PySem.Spec PyProof.Rows
section
variable {W : Wd} {K : PySem.W.Frag} {Γ : List (Option Dat)} {ta tb tc te tl tn : TE} {tt tu : TT} {tA : TA} {P R : Dat → Prop} {d a b : Dat} {G1 G0 H0 G H : Hp} {O : List (Addr × List Dat)} {σ : L2.St} {D : Ends} {tz ts tw : TS}
/-- lists of drawn numbers -/
def InB (b : Int) (ns : List Int) : Prop := ∀ x ∈ ns, 0 ≤ x ∧ x < b
mutual
theorem Pl.up : ∀ {n : Nat} {d : Dat}, Pl n d → Pl (n + 1) d
  | n, .non, _ => by simp [Pl]
  | n, .bl _, _ => by simp [Pl]
  | n, .int _, _ => by simp [Pl]
  | n, .str x, h => by
    have h : PyData.strOk x = true := by cases n <;> simpa [Pl] using h
    simpa [Pl] using h
  | n, .adr _, h => by cases n <;> simp [Pl] at h
  | n, .obj _ _, h => by cases n <;> simp [Pl] at h
  | n, .dct _, h => by cases n <;> simp [Pl] at h
  | n, .dcs _, h => by cases n <;> simp [Pl] at h
  | 0, .tup _, h => by simp [Pl] at h
  | 0, .lst _, h => by simp [Pl] at h
  | n + 1, .tup ds, h => by
    rw [Pl] at h ⊢
    exact ⟨h.1, Pls.up h.2⟩
  | n + 1, .lst ds, h => by
    rw [Pl] at h ⊢
    exact ⟨h.1, Pls.up h.2⟩
theorem Pls.up : ∀ {n : Nat} {d : List Dat}, Pls n d → Pls (n + 1) d
  | _, [], _ => by simp [Pls]
  | n, d :: ds, h => by
    rw [Pls] at h ⊢
    exact ⟨Pl.up h.1, Pls.up h.2⟩
end
/-! ## the law's own promise -/
def spLaw (K : PySem.W.Frag) : Sp := fun vs H Q _ => ∃ (a : Addr) (ns : List Int), vs = [.ref a] ∧ SqL K H a (ns.map V.int) ∧ ns.length ≤ 63 ∧ ∀ H', Q (.bl true) H'
theorem law_start {vs : List V} {a : Addr} {ns : List Int} {N : List Str} (e : vs = [.ref a]) (h : SqL K H a (ns.map V.int)) : S4 Wd0 K H H H ([.lst (dI ns)].map some ++ List.replicate (N.length - [Dat.lst (dI ns)].length) Option.none) [] (L2.start N vs) H H := by
  subst e
  exact S4.start ⟨Ex.refl H, trivial, fun _ h => h.elim⟩ (.cons (.lst h (Reps.of_ints ns)) .nil)
end
end Ly

set_option maxHeartbeats 4000000
namespace Ly
open PySem L2 PySem.Spec PyProof.Rows
/-! ## own classes: ==, !=, fields, isinstance -/
/-- a plain class of the text, with an own ==, at C -/
structure ClsQ (K : PySem.W.Frag) (C f : Addr) : Prop where
  cls : Cls K C
  eq : PySem.W.findIn K (.ref C) "__eq__" = some (some (.ref f))
  fn : PySem.W.isFn K (.ref f) = true
  obj : ∃ (nm q : Str) (N : Addr) (bs : List Value) (sn : List Str) (sub : List Value) (ab : Bool) (col : Option Bool) (dd : Option Addr) (k0 k1 k2 k3 k5 : Option Value) (newId : String),
    K.lookup C = some (excClassObj nm q C N bs [.type "object"] true sn sub ab col dd k0 k1 k2 k3 k5 newId) ∧ PySem.W.nsOkIn K N = true ∧ PySem.W.nsIn K N "__eq__" = some (some (.ref f)) ∧ PySem.W.nsIn K N "__ne__" = some none
  ha : PySem.W.findIn K (.ref C) "__class__" = some (some (.builtin "object.__class__"))
  hn : PySem.W.specialIn K (.builtin "object.__class__") "__get__" = some (some (.builtin "getset_descriptor.__get__"))
  ht : PySem.W.takesIn K (.builtin "object.__class__") = some true
  hm : PySem.W.mroIn K C (.type "object") = some true
section
variable {X : Cx} {C f : Addr} {fd : FuncData} {ps : List Str} {sp : Sp} {n : Nat}
def rEqOwn (C : Addr) (sp : Sp) (neg : Bool) : R2 := fun x y H Q => ∃ a b dx dy fs gs, x = .ref a ∧ y = .ref b ∧ H a = some (.ins C dx fs) ∧ H b = some (.ins C dy gs) ∧ sp [x, y] H (fun v H' => ∃ c, v = .bl c ∧ Q (.bl (if neg then !c else c)) H') E0
end
end Ly

set_option maxHeartbeats 4000000
namespace Ly
open PySem L2 PySem.Spec PyProof.Rows
/-! ## data without lists: an own list may be known for a while -/
mutual
def NL : Dat → Prop
  | .non => True
  | .bl _ => True
  | .int _ => True
  | .str _ => True
  | .adr _ => True
  | .tup ds => NLs ds
  | .lst _ => False
  | .obj _ fs => NLf fs
  | .dct es => NLd es
  | .dcs es => NLk es
def NLs : List Dat → Prop
  | [] => True
  | d :: ds => NL d ∧ NLs ds
def NLf : List (Str × Dat) → Prop
  | [] => True
  | (_, d) :: ds => NL d ∧ NLf ds
def NLd : List (List Key × Dat) → Prop
  | [] => True
  | (_, d) :: ds => NL d ∧ NLd ds
def NLk : List (Key × Dat) → Prop
  | [] => True
  | (_, d) :: ds => NL d ∧ NLk ds
end
def del (G : Hp) (l : Addr) : Hp := fun a => if a = l then none else G a
theorem del_ne {G : Hp} {l a : Addr} (h : a ≠ l) : del G l a = G a := by
  unfold del
  rw [if_neg h]
theorem del_same {G : Hp} {l : Addr} : del G l l = none := by
  unfold del
  rw [if_pos rfl]
section
variable {K : PySem.W.Frag} {G : Hp} {l : Addr} {xl : List V}
theorem sqt_del {a : Addr} {xs : List V} (hl : G l = some (.lst xl)) (h : SqT K G a xs) : SqT K (del G l) a xs := by
  rcases h with (h | ⟨o, h⟩) | h
  · refine .inl (.inl ?_)
    rw [del_ne (ne_of h hl (by intro z; cases z))]
    exact h
  · refine .inl (.inr ⟨o, ?_⟩)
    rw [del_ne (ne_of h hl (by intro z; cases z))]
    exact h
  · exact .inr h
mutual
theorem Rep.thaw (hl : G l = some (.lst xl)) : ∀ {v : V} {d : Dat}, NL d → Rep K G v d → Rep K (del G l) v d
  | _, _, _, .non => .non
  | _, _, _, .bl b => .bl b
  | _, _, _, .int i => .int i
  | _, _, _, .str x => .str x
  | _, _, _, .adr a => .adr a
  | _, _, n, .tup h r => by
    rw [NL] at n
    exact .tup (sqt_del hl h) (Reps.thaw hl n r)
  | _, _, n, .lst h r => by
    rw [NL] at n
    exact n.elim
  | _, _, n, .obj h r => by
    rw [NL] at n
    refine .obj (G := del G l) (by rw [del_ne (ne_of h hl (by intro z; cases z))]; exact h) (Flds.thaw hl n r)
  | _, _, n, .dct h r => by
    rw [NL] at n
    refine .dct (G := del G l) (by rw [del_ne (ne_of h hl (by intro z; cases z))]; exact h) (Dcts.thaw hl n r)
  | _, _, n, .dcs h r => by
    rw [NL] at n
    refine .dcs (G := del G l) (by rw [del_ne (ne_of h hl (by intro z; cases z))]; exact h) (Dcks.thaw hl n r)
theorem Reps.thaw (hl : G l = some (.lst xl)) : ∀ {v : List V} {d : List Dat}, NLs d → Reps K G v d → Reps K (del G l) v d
  | _, _, _, .nil => .nil
  | _, _, n, .cons h r => by
    rw [NLs] at n
    exact .cons (Rep.thaw hl n.1 h) (Reps.thaw hl n.2 r)
theorem Flds.thaw (hl : G l = some (.lst xl)) : ∀ {v : List (Str × V)} {d : List (Str × Dat)}, NLf d → Flds K G v d → Flds K (del G l) v d
  | _, _, _, .nil => .nil
  | _, _, n, .cons h r => by
    rw [NLf] at n
    exact .cons (Rep.thaw hl n.1 h) (Flds.thaw hl n.2 r)
theorem Dcts.thaw (hl : G l = some (.lst xl)) : ∀ {v : List (List Key × V)} {d : List (List Key × Dat)}, NLd d → Dcts K G v d → Dcts K (del G l) v d
  | _, _, _, .nil => .nil
  | _, _, n, .cons h r => by
    rw [NLd] at n
    exact .cons (Rep.thaw hl n.1 h) (Dcts.thaw hl n.2 r)
theorem Dcks.thaw (hl : G l = some (.lst xl)) : ∀ {v : List (Key × V)} {d : List (Key × Dat)}, NLk d → Dcks K G v d → Dcks K (del G l) v d
  | _, _, _, .nil => .nil
  | _, _, n, .cons h r => by
    rw [NLk] at n
    exact .cons (Rep.thaw hl n.1 h) (Dcks.thaw hl n.2 r)
end
end
theorem NLs.get : ∀ {ds : List Dat} {i : Nat} {d : Dat}, NLs ds → ds[i]? = some d → NL d
  | [], _, _, _, h => by simp at h
  | _ :: _, 0, _, p, h => by
    have e := Option.some.inj h
    subst e
    unfold NLs at p
    exact p.1
  | _ :: ds, i + 1, d, p, h => by
    rw [List.getElem?_cons_succ] at h
    unfold NLs at p
    exact NLs.get p.2 h
theorem NLs.ints : ∀ (ns : List Int), NLs (dI ns)
  | [] => by simp [NLs]
  | x :: ns => by
    rw [dI, List.map_cons, NLs]
    exact ⟨by simp [NL], NLs.ints ns⟩
section
variable {W : Wd} {K : PySem.W.Frag} {Γ : List (Option Dat)} {ta tb tc te tl tv : TE} {tt tu : TT} {tA : TA} {P R : Dat → Prop} {d a b : Dat} {G1 G0 H0 G H : Hp} {O : List (Addr × List Dat)} {σ : L2.St} {D : Ends} {tz ts tw : TS}
/-- what an own list at l was ahead of its being known -/
structure Thw (W : Wd) (G1 G0 H0 : Hp) (l : Addr) : Prop where
  g1 : G1 l = none
  g0 : G0 l = none
  h0 : H0 l = none
  m : ¬ W.m l
theorem S4.keepT {l : Addr} {ds : List Dat} {i : Nat} (hi : Γ[i]? = some (some (.adr l))) (S : S4 W K G1 G0 H0 Γ ((l, ds) :: O) σ G H) : Thw W G1 G0 H0 l ∧ σ[i]? = some (some (.ref l)) ∧ ∃ G2, S4 W K G1 G0 H0 (Γ.set i (some (.lst ds))) O σ G2 H ∧ ∃ xs, G2 l = some (.lst xs) ∧ Reps K G2 xs ds := by
  have o := S.own l ds List.mem_cons_self
  have n1 : G1 l = none := by
    cases q : G1 l with
    | none => rfl
    | some u =>
      have := S.fr l u q
      rw [o.g] at this
      cases this
  have n0 : G0 l = none := by
    cases q : G0 l with
    | none => rfl
    | some u =>
      have := S.stp.gg l u q
      rw [o.g] at this
      cases this
  obtain ⟨v, e1, e2⟩ := S.env.at' i _ hi
  have e3 := e2.adr_inv
  subst e3
  exact ⟨⟨n1, n0, o.h0, o.m⟩, e1, S4.keepX hi S⟩
theorem S4.thaw {l : Addr} {ds : List Dat} {i : Nat} (t : Thw W G1 G0 H0 l) (hi : σ[i]? = some (some (.ref l))) (hl : ∃ xs, G l = some (.lst xs) ∧ Reps K G xs ds) (S : S4 W K G1 G0 H0 Γ O σ G H) (hn : NLs ds)
    (hΓ : ∀ (j : Nat) d, j ≠ i → Γ[j]? = some (some d) → NL d) (hO : ∀ k es, (k, es) ∈ O → NLs es) : S4 W K G1 G0 H0 (Γ.set i (some (.adr l))) ((l, ds) :: O) σ (del G l) H := by
  obtain ⟨xs, h1, h2⟩ := hl
  have eg : Ex (del G l) G := fun a o e => by
    by_cases q : a = l
    · subst q
      rw [del_same] at e
      cases e
    · rw [del_ne q] at e
      exact e
  have ge : ∀ {G' : Hp}, G' l = none → Ex G' G → Ex G' (del G l) := fun {G'} hz e a o h => by
    rw [del_ne (ne_of_none h hz)]
    exact e a o h
  have hH : H l = some (.lst xs) := S.ok.ex l _ h1
  have stp : Stp W G0 H0 (del G l) H := ⟨ge t.g0 S.stp.gg, eg.trans S.ok.ex, S.stp.hh, fun a o e => S.stp.nw a o (eg a o e), S.stp.inv⟩
  have nd : ∀ k es, (k, es) ∈ O → k ≠ l := fun k es hm e => by
    have o := S.own k es hm
    rw [e] at o
    have := o.g
    rw [h1] at this
    cases this
  refine ⟨⟨by rw [List.length_set]; exact S.env.len, fun j d q => ?_⟩, ⟨stp.gh, stp.inv, fun a ha => ?_⟩, stp, fun k es hm => ?_, ?_, ge t.g1 S.fr⟩
  · by_cases hji : i = j
    · subst hji
      have hlt : i < Γ.length := by
        have := S.env.len
        rcases Nat.lt_or_ge i σ.length with z | z
        · omega
        · rw [List.getElem?_eq_none z] at hi
          cases hi
      rw [List.getElem?_set_self hlt] at q
      have e := Option.some.inj (Option.some.inj q)
      subst e
      exact ⟨_, hi, .adr l⟩
    · rw [List.getElem?_set_ne hji] at q
      obtain ⟨v, e1, e2⟩ := S.env.at' j d q
      exact ⟨v, e1, Rep.thaw h1 (hΓ j d (Ne.symm hji) q) e2⟩
  · rw [del_ne (fun e => t.m (by rw [← e]; exact ha))]
    exact S.ok.off a ha
  · rcases List.mem_cons.mp hm with e | hm
    · cases e
      exact ⟨del_same, t.h0, t.m, xs, hH, Reps.thaw h1 hn h2⟩
    · have o := S.own k es hm
      obtain ⟨ys, y1, y2⟩ := o.at'
      exact ⟨by rw [del_ne (nd k es hm)]; exact o.g, o.h0, o.m, ys, y1, Reps.thaw h1 (hO k es hm) y2⟩
  · rw [List.map_cons, List.nodup_cons]
    refine ⟨fun hm => ?_, S.nd⟩
    obtain ⟨⟨k, es⟩, hk, e⟩ := List.mem_map.mp hm
    exact nd k es hk e
theorem S4.swap {x y : Addr × List Dat} (S : S4 W K G1 G0 H0 Γ (x :: y :: O) σ G H) : S4 W K G1 G0 H0 Γ (y :: x :: O) σ G H := by
  refine ⟨S.env, S.ok, S.stp, fun l ds hm => S.own l ds ?_, ?_, S.fr⟩
  · simp only [List.mem_cons] at hm ⊢
    rcases hm with h | h | h
    · exact .inr (.inl h)
    · exact .inl h
    · exact .inr (.inr h)
  · have nd := S.nd
    simp only [List.map_cons, List.nodup_cons, List.mem_cons, not_or] at nd ⊢
    exact ⟨⟨fun e => nd.1.1 e.symm, nd.2.1⟩, nd.1.2, nd.2.2⟩
end
end Ly

set_option maxHeartbeats 4000000
namespace Ly
open PySem L2 PySem.Spec PyProof.Rows
def NLG (i : Nat) : Nat → List (Option Dat) → Prop
  | _, [] => True
  | k, none :: r => NLG i (k + 1) r
  | k, some d :: r => (k = i ∨ NL d) ∧ NLG i (k + 1) r
theorem NLG.at' {i : Nat} : ∀ {Γ : List (Option Dat)} {k : Nat}, NLG i k Γ → ∀ (j : Nat) d, k + j ≠ i → Γ[j]? = some (some d) → NL d
  | [], _, _, j, d, _, h => by simp at h
  | none :: r, k, n, 0, d, _, h => by simp at h
  | some e :: r, k, n, 0, d, hj, h => by
    have q := Option.some.inj (Option.some.inj h)
    subst q
    exact n.1.resolve_left (by omega)
  | none :: r, k, n, j + 1, d, hj, h => by
    rw [List.getElem?_cons_succ] at h
    exact NLG.at' (Γ := r) (k := k + 1) n j d (by omega) h
  | some e :: r, k, n, j + 1, d, hj, h => by
    rw [List.getElem?_cons_succ] at h
    exact NLG.at' (Γ := r) (k := k + 1) n.2 j d (by omega) h
theorem NLG.of {i : Nat} {Γ : List (Option Dat)} (n : NLG i 0 Γ) : ∀ (j : Nat) d, j ≠ i → Γ[j]? = some (some d) → NL d := fun j d hj h => n.at' j d (by omega) h
/-! ## an object that is being made -/
def WI (x C dx : Addr) (fs : List (Str × V)) : Wd where
  m := fun a => a = x
  I := fun H => H x = some (.ins C dx fs)
  loc := fun h e => by rw [e x rfl]; exact h
  tr := fun h hm => by
    subst hm
    exact ⟨_, h⟩
section
variable {W : Wd} {K : PySem.W.Frag} {Γ : List (Option Dat)} {ta tb tc te tl tv : TE} {tt tu : TT} {tA : TA} {P R : Dat → Prop} {d a b : Dat} {G1 G0 H0 G H G2 H2 : Hp} {O : List (Addr × List Dat)} {σ : L2.St} {D : Ends} {tz ts tw : TS} {x C dx CE : Addr} {fs : List (Str × V)} {f : Str}
theorem Stp.wi {fs gs : List (Str × V)} (s : Stp (WI x C dx fs) G H G2 H2) (h : H2 x = some (.ins C dx gs)) : Stp (WI x C dx gs) G H G2 H2 := ⟨s.gg, s.gh, s.hh, s.nw, h⟩
/-- self.f = e, self being made -/
theorem g_fld (h : Ev (WI x C dx fs) K tv Γ P) (ho : EvX (WI x C dx fs) K ta Γ (.adr x)) (hc : Cls K C) (hn : NoAttr K C f) (hl : fs.length < 1000) (S : S4 (WI x C dx fs) K G1 G0 H0 Γ [] σ G H)
    (k : ∀ y d G2 H2, P d → Rep K G2 y d → S4 (WI x C dx (putF f y fs)) K G1 G0 H0 Γ [] σ G2 H2 → D.nx σ H2) : sFld K ta tv f D σ H :=
  h σ G H S.env S.ok _ fun y d G2 H2 s p r => by
    have S2 := S.step s
    refine ho σ G2 H2 S2.env S2.ok _ fun v e G3 H3 s3 ee r3 => ?_
    subst ee
    cases r3
    have S3 := S2.step s3
    have hx : H3 x = some (.ins C dx fs) := S3.ok.inv
    refine ⟨x, C, dx, fs, rfl, hx, hc, hn, hl, ?_⟩
    have gx : G3 x = none := S3.ok.off x rfl
    have eg : Ex G3 (upd H3 x (.ins C dx (putF f y fs))) := fun a u e => by
      rw [upd_ne (ne_of_none e gx)]
      exact S3.ok.ex a u e
    refine k y d G3 _ p (r.mono s3.gg) ⟨S3.env, ⟨eg, upd_same, S3.ok.off⟩, ⟨S3.stp.gg, eg, fun a u hm e => ?_, S3.stp.nw, upd_same⟩, (fun _ _ hm => nomatch hm), List.nodup_nil, S3.fr⟩
    rw [upd_ne hm]
    exact S3.stp.hh a u hm e
theorem q_fld (h : Ev (WI x C dx fs) K tv Γ P) (ho : EvX (WI x C dx fs) K ta Γ (.adr x)) (hc : Cls K C) (hn : NoAttr K C f) (hl : fs.length < 1000) (S : S4 (WI x C dx fs) K G1 G0 H0 Γ [] σ G H)
    (k : ∀ y d G2 H2, P d → Rep K G2 y d → S4 (WI x C dx (putF f y fs)) K G1 G0 H0 Γ [] σ G2 H2 → tz D σ H2) : tSeq (sFld K ta tv f) tz D σ H := g_fld (D := { D with nx := tz D }) h ho hc hn hl S k
/-- what an __init__ makes of its arguments: the fields, or an error of the class at CE -/
abbrev InitSig := List Dat → Option (List (Str × Dat)) → Prop
def spInit (K : PySem.W.Frag) (C CE : Addr) (A : InitSig) : Sp := fun vs H Q E => ∃ G x dx ds vs' r, vs = .ref x :: vs' ∧ Ok (WI x C dx []) G H ∧ Reps K G vs' ds ∧ A ds r ∧ (r = none → ∀ H2, E (.ref CE) none H2) ∧
  (∀ fsd, r = some fsd → ∀ G2 H2 fs, Stp (WI x C dx fs) G H G2 H2 → Flds K G2 fs fsd → Q .non H2)
/-- the same where an error is wished for at the slots -/
def tMakeS (C : Addr) (sp : Sp) (E : L2.St → XK) (t : TA) : TE := fun σ H Q => t σ H fun vs H1 => ∀ x dx, H1 x = none → H1 dx = none → dx ≠ x → sp (.ref x :: (vs ++ [])) (upd (upd H1 dx (.own x)) x (.ins C dx [])) (fun v H2 => v = .non ∧ Q (.ref x) H2) (E σ)
/-- an attribute of a known object -/
theorem v_fld {fsd : List (Str × Dat)} (h : EvX W K ta Γ (.obj C fsd)) (hc : Cls K C) (hn : NoAttr K C f) (hl : fsd.lookup f = some d) : EvX W K (tFld K ta f) Γ d := fun σ G H n k Q q =>
  h σ G H n k _ fun v e G2 H2 s ee r => by
    subst ee
    cases r with
    | obj hg fl =>
      obtain ⟨u, h1, h2⟩ := fl.get hl
      exact ⟨_, C, _, _, u, rfl, (s.ok k).ex _ _ hg, hc, hn, h1, (q.step s).here (s.ok k) h2 rfl⟩
theorem Flds.none : ∀ {vs : List (Str × V)} {fs : List (Str × Dat)}, Flds K G vs fs → fs.lookup f = none → vs.lookup f = none
  | _, _, .nil, _ => rfl
  | _, _, .cons (f := g) h r, e => by
    rw [List.lookup_cons] at e ⊢
    by_cases q : (f == g) = true
    · rw [q] at e
      cases e
    · have q : (f == g) = false := by simpa using q
      rw [q] at e ⊢
      exact Flds.none r e
/-- isinstance(x, C), x of the class -/
theorem v_isOwn {fsd : List (Str × Dat)} {f : Addr} (q : ClsQ K C f) (h : EvX W K ta Γ (.obj C fsd)) : EvX W K (tCB (rIsi K) (tCons ta (tCons (tC (.ref C)) tNil))) Γ (.bl true) := fun σ G H n k Q qq =>
  h σ G H n k _ fun v e G2 H2 s ee r => by
    subst ee
    have k2 := s.ok k
    cases r with
    | @obj a _ dx vs _ hg fl =>
      exact ⟨.ref a, .ref C, .ref C, .ref C, true, rfl, .own C, .base (.ins (k2.ex _ _ hg) q.cls q.ha q.hn q.ht q.hm), by
        unfold PySem.W.kitOne
        rw [if_pos (by simp)], (qq.step s).here k2 (.bl _) rfl⟩
end
section
variable {X : Cx} {CX : CXT} {k : Nat} {f C : Addr} {fd : FuncData} {ps : List Str} {sp : Sp} {E : L2.St → XK} {x m : Str} {p pos : Pos} {e : Expr} {es : List Expr} {t : TA}
end
end Ly

set_option maxHeartbeats 4000000
namespace Ly
open PySem L2 PySem.Spec PyProof.Rows
/-! ## a starred name in targets -/
section
variable {prog : Program} {w : World} {A : Around} {E : Value → Shared → Prop} {s : Shared}
theorem star_items {l : Addr} {items : Array Value} {n i : Nat} {Q : List Value → Shared → Prop} (hl : IsTup s.heap l items) (hnd : A.handled = none) (hi : i < n) (hn : n ≤ items.size + 1) (hz : items.size ≤ 16384)
    (h : ∀ (h' : Heap) (tk : Nat), (∀ b o, s.heap.get? b = some o → h'.get? b = some o) → Q (items.toList.take i ++ [.ref h'.objs.size] ++ (items.toList.drop i).drop (items.size + 1 - n)) { s with heap := h'.push { cls := .type "list", data := .seq ((items.toList.drop i).take (items.size + 1 - n)).toArray }, toks := tk }) : wpAny (model prog w) A (unpackItems (.ref l) n (some i)) Q E s := by
  have nel : l ≠ s.heap.objs.size := by
    obtain ⟨o, ho, _⟩ := hl
    exact Nat.ne_of_lt (Heap.lt_size ho)
  unfold unpackItems
  apply wpAny_bind
  unfold notIterableAtAll
  refine wpAny_bind (wpAny_specialOf hl.typeIs PySem.F.slot_tuple_iter.lookup ?_)
  refine wpAny_pure ?_
  rw [if_neg Bool.false_ne_true]
  apply wpAny_bind
  refine wpAny_holding (iter_tuple hl ?_)
  refine wpAny_bind (wpAny_holding (draw_tuple nel i 0 _ _ ⟨_, Heap.get?_push_size _ rfl, rfl, rfl⟩ (hl.push _) (by omega) fun ha ita sba => ?_))
  have tla : IsTup ha l items := (hl.push _).extBut sba.extBut nel
  rw [Nat.zero_add] at ita
  have itb := ita
  obtain ⟨oi, goi, _⟩ := itb
  have tlb := tla
  obtain ⟨ol, gol, _⟩ := tlb
  rw [List.drop_zero]
  have zf : (items.toList.take i).length = i := by rw [List.length_take, Array.length_toList]; omega
  rw [if_neg (show ¬ ((items.toList.take i).length < i) by rw [zf]; omega)]
  refine wpAny_bind (wpAny_holding (PySem.W.kun_collect (s := { s with heap := ha }) (T := "tuple_iterator") (.inr (.inr (.inr rfl))) (Walks.tuple (A := A.in1) hnd s.heap.objs.size l nel items) (fun j u st => st.1.typeIs) (k := i) (by omega) ⟨ita, tla⟩ (Heap.lt_size goi) (Heap.lt_size gol) (fun hb2 tk kk => ?_) (by rw [sizeLine_eq]; omega)))
  have zr : (items.toList.drop i).length = items.size - i := by rw [List.length_drop, Array.length_toList]
  have zm : (items.toList.drop i).length - (n - 1 - i) = items.size + 1 - n := by rw [zr]; omega
  change wpAny _ _ (if (items.toList.drop i).length < n - 1 - i then _ else _) _ _ _
  rw [if_neg (by rw [zr]; omega)]
  change wpAny _ _ (newList ((items.toList.drop i).take ((items.toList.drop i).length - (n - 1 - i))) >>= fun d => pure (items.toList.take i ++ [d] ++ (items.toList.drop i).drop ((items.toList.drop i).length - (n - 1 - i)))) _ _ _
  rw [zm]
  refine wpAny_bind (wpAny_newList (s := { s with heap := hb2, toks := tk }) (wpAny_pure (h hb2 tk fun b o e => ?_)) (by rw [List.length_take, zr, sizeLine_eq]; omega))
  have hb : b ≠ s.heap.objs.size := Nat.ne_of_lt (Heap.lt_size e)
  exact kk b o hb (sba.extBut b o hb (Heap.get?_push_of_some _ e))
end
section
variable {X : Cx} {pos : Pos}
theorem pgs_consS {e : Expr} {es : List Expr} {p : Pos} {t : TG} {u : TGs} (h1 : PG X e t) (h2 : PGs X es u)
    (hs : (assignEach (.Starred e p :: es) X.env).map (·.2) = assign e X.env :: (assignEach es X.env).map (·.2) := by rfl) : PGs X (.Starred e p :: es) (gCons t u) := by
  refine ⟨fun pp s σ H vs us Q I r h => ?_⟩
  obtain ⟨v, vr, e1, h⟩ := h
  subst e1
  cases r with
  | cons r rq =>
    rw [hs]
    refine assignInOrder_cons (thn (h1.run pp s σ H _ _ _ I r h) fun _ s1 ⟨σ1, H1, I1, qa⟩ => ?_)
    exact h2.run pp s1 σ1 H1 _ _ Q I1 rq qa
/-- (a, .., *b, ..) = a tuple: n targets, the starred one at i -/
def gTupS (K : PySem.W.Frag) (n i : Nat) (t : TGs) : TG := fun v σ H Q => ∃ a xs, v = .ref a ∧ SqT K H a xs ∧ n ≤ xs.length + 1 ∧ xs.length ≤ 16384 ∧
  ∀ p, H p = none → t (xs.take i ++ [.ref p] ++ (xs.drop i).drop (xs.length + 1 - n)) σ (upd H p (.lst ((xs.drop i).take (xs.length + 1 - n)))) Q
theorem pg_tupS {es : List Expr} {k : Nat} {t : TGs} {n i : Nat} (hc : X.calm = true) (h : PGs X es t)
    (hn : (assignEach es X.env).length = n := by rfl) (hst : (assignEach es X.env).findIdx? (·.1) = some i := by rfl) (hi : i < n := by decide) : PG X (.Tuple es k pos) (gTupS X.K n i t) := by
  refine ⟨fun pp s σ H v u Q I r hx0 => ?_⟩
  obtain ⟨a, xs, e1, hq, hl, hz, hx0⟩ := hx0
  subst e1
  cases r
  obtain ⟨its, rv, ht, _⟩ := I.tuple hq
  have el := rv.length
  rw [assign_Tuple]
  refine wpAny_bind (wpAny_standAt ?_)
  unfold unpack
  rw [hn, hst]
  refine wpAny_bind (wpAny_holding (star_items ht (I.ok.hd hc) hi (by rw [List.size_toArray]; omega) (by rw [List.size_toArray]; omega) fun h' tk hx => ?_))
  have I1 : Inv X pp σ H { s with heap := h', toks := tk } := I.kept (t' := tk) hx
  have rm : Vals ((xs.drop i).take (xs.length + 1 - n)) ((its.drop i).take (its.length + 1 - n)) := by
    rw [el]
    exact (rv.drop i).take _
  have I2 : Inv X pp σ (upd H h'.objs.size (.lst ((xs.drop i).take (xs.length + 1 - n)))) { s with heap := h'.push { cls := .type "list", data := .seq ((its.drop i).take (its.length + 1 - n)).toArray }, toks := tk } :=
    I1.lnew (t' := tk) rm (by rw [List.length_take, List.length_drop, sizeLine_eq]; omega)
  have f : H h'.objs.size = none := I1.fresh
  have q := h.run pp _ σ _ _ (its.take i ++ [Value.ref h'.objs.size] ++ (its.drop i).drop (its.length + 1 - n)) Q I2 (((rv.take i).append (.cons (show RelV (.ref h'.objs.size) (.ref h'.objs.size) from rfl) .nil)).append (by rw [el]; exact (rv.drop i).drop _)) (hx0 _ f)
  simpa using q
end
/-! ## min of a tuple of ints -/
section
variable {X : Cx}
def rMinT (K : PySem.W.Frag) : List V → Hp → VK → Prop := fun vs H Q => ∃ (a : Addr) (n : Int) (ns : List Int), vs = [V.ref a] ∧ SqT K H a ((n :: ns).map V.int) ∧ Q (.int (ns.foldl min n)) H
end
/-! ## list + list -/
section
variable {X : Cx}
def rCatL (K : PySem.W.Frag) : R2 := fun x y H Q => ∃ l b xs zs, x = .ref l ∧ y = .ref b ∧ SqL K H l xs ∧ SqL K H b zs ∧ xs.length + zs.length ≤ sizeLine ∧ ∀ p, H p = none → Q (.ref p) (upd H p (.lst (xs ++ zs)))
end

/-! ## by data -/
section
variable {W : Wd} {K : PySem.W.Frag} {Γ : List (Option Dat)} {ta tb tc te tl tv : TE} {tt tu : TT} {tA : TA} {P R : Dat → Prop} {d a b : Dat} {G1 G0 H0 G H G2 H2 : Hp} {O : List (Addr × List Dat)} {σ : L2.St} {D : Ends} {tz ts tw : TS}
/-- the first own list is forgotten -/
theorem S4.drop {x : Addr × List Dat} (S : S4 W K G1 G0 H0 Γ (x :: O) σ G H) : S4 W K G1 G0 H0 Γ O σ G H := ⟨S.env, S.ok, S.stp, fun l ds hm => S.own l ds (List.mem_cons_of_mem _ hm), by
  have := S.nd
  rw [List.map_cons, List.nodup_cons] at this
  exact this.2, S.fr⟩
end
end Ly

set_option maxHeartbeats 4000000
namespace Ly
open PySem L2 PySem.Spec PyProof.Rows
/-! ## classes of the text -/
/-- a class that may be made by its name, and may raise; sp: its __init__ -/
structure MakS (P : Program) (w : World) (K : PySem.W.Frag) (mg : Str → Option Value) (base : Heap) (k : Nat) (x : Str) (C : Addr) (sp : Sp) : Prop where
  ex : ∃ (f : Addr) (fd : FuncData) (ps : List Str), Mk K C f ∧ FnOk P w K mg base (L2.CX P w) k f fd ps sp ∧ mg x = some (.ref C) ∧ Binds K fd ps []
section
variable {P : Program} {w : World} {K : PySem.W.Frag} {mg : Str → Option Value} {base : Heap}
theorem maks_of {x qual : Str} {C : Addr} {st : Stmt} {N ps : List Str} {k : Nat} {sp : Sp} (M : ∃ f fd, Mk K C f ∧ Fun K "__init__" qual st f fd) (hm : mg x = some (.ref C))
    (hb : ∀ (kV doc pm : Value) (an : Option Addr) (cdv ct : Value) (us : List Value), us.length = ps.length → bindArgs (PySem.W.fnOf "__init__" qual (defArgs st) (defBody st) (defScope st) .none kV doc pm an cdv ct) ⟨us, []⟩ = pure (ps.zip us))
    (S : FnScope N ps (defScope st)) (len : ∀ vs H Q E, sp vs H Q E → vs.length = ps.length)
    (hbody : ∀ (f : Addr) (cdv : Value) (A : Around) (outer : List PySem.Env) (s : Shared) (H : Hp) (vs : List V) (Q : VK) (E : XK), Room k (A.deeper (envOfC qual (defScope st) s.heap.objs.size f cdv)) → sp vs H Q E →
      ∃ t, PSs (cxOf (L2.CX P w) P w K mg base N qual (defScope st) f cdv A outer s H E) (defBody st) t ∧ t { nx := fun _ H' => Q .non H', rt := Q } (L2.start N vs) H) : MakS P w K mg base (k + 1) x C sp := by
  obtain ⟨f, fd, m, F⟩ := M
  exact ⟨⟨f, fd, ps, m, F.okX S len (hbody f), hm, F.binds hb⟩⟩
theorem met_of {m qual : Str} {C : Addr} {st : Stmt} {N ps : List Str} {k : Nat} {sp : Sp} (c : Cls K C) (M : ∃ f fd, Meth K C m f ∧ Fun K m qual st f fd)
    (hb : ∀ (kV doc pm : Value) (an : Option Addr) (cdv ct : Value) (us : List Value), us.length = ps.length → bindArgs (PySem.W.fnOf m qual (defArgs st) (defBody st) (defScope st) .none kV doc pm an cdv ct) ⟨us, []⟩ = pure (ps.zip us))
    (S : FnScope N ps (defScope st)) (len : ∀ vs H Q E, sp vs H Q E → vs.length = ps.length)
    (hbody : ∀ (f : Addr) (cdv : Value) (A : Around) (outer : List PySem.Env) (s : Shared) (H : Hp) (vs : List V) (Q : VK) (E : XK), Room k (A.deeper (envOfC qual (defScope st) s.heap.objs.size f cdv)) → sp vs H Q E →
      ∃ t, PSs (cxOf CX0 P w K mg base N qual (defScope st) f cdv A outer s H E).nox (defBody st) t ∧ t { nx := fun _ H' => Q .non H', rt := Q } (L2.start N vs) H) : C8.Met P w K mg base (k + 1) C m sp [] := by
  obtain ⟨f, fd, me, F⟩ := M
  exact ⟨⟨f, fd, ps, [], c, me, F.ok S len (hbody f), F.binds hb, .nil⟩⟩
/-- an own == -/
structure EqS (P : Program) (w : World) (K : PySem.W.Frag) (mg : Str → Option Value) (base : Heap) (k : Nat) (C : Addr) (sp : Sp) : Prop where
  ex : ∃ (f : Addr) (fd : FuncData) (ps : List Str), ClsQ K C f ∧ FnOk P w K mg base CX0 k f fd ps sp ∧ Binds K fd ps []
end
section
variable {X : Cx} {k j : Nat} {C : Addr} {x m : Str} {sp : Sp} {p pos : Pos} {e : Expr} {es : List Expr} {t : TA}
theorem pe_mkX (c : MakS X.prog X.w X.K X.mg X.base k x C sp) (hr : Room j X.A) (hk : k + 1 ≤ j) (hg : Gl X x) (ha : PA X (e :: es) t)
    (hdb : (x == ("__debug__" : Str)) = false := by decide) (he : starEach (e :: es) X.env = (false, eval e X.env) :: starEach es X.env := by rfl) (hpl : (backTo pos (starEach es X.env)).any (·.1) = false := by rfl) :
    PE X (.Call (.Name x p) (e :: es) [] pos) (tMake C sp [] E0 t) := by
  obtain ⟨f, fd, ps, M, F, hm, b⟩ := c.ex
  exact pe_make M F (hr.mono hk) hg hm b .nil passL ha hdb he hpl
end
/-- an own class of errors, without an __init__ of its own -/
structure ErrP (K : PySem.W.Frag) (mg : Str → Option Value) (x : Str) (C : Addr) : Prop where
  gl : mg x = some (.ref C)
  kp : PySem.W.keepIn K (.ref C) = true
  ex : PySem.W.excIn K C [.type "ValueError", .type "Exception", .type "BaseException", .type "object"] "ValueError.__new__" = true
  sub : PySem.W.subIn K (.ref C) (.type "BaseException") = some true
  ty : PySem.W.typeIn K (.ref C) = some (.type "type")
  hd : PySem.W.hasDictIn K C = true
  self : PySem.W.subIn K (.ref C) (.ref C) = some true
  is : ExcC K C
theorem ErrP.exm {K : PySem.W.Frag} {mg : Str → Option Value} {x : Str} {C : Addr} (e : ErrP K mg x C) : PySem.W.exmOne K (.ref C) (.ref C) = some true := PySem.W.exm_ref e.sub e.hd e.ty e.self
theorem ps_raiseE {X : Cx} {W : WX} {C : Addr} {x m : Str} {j : Nat} {p p2 pos pos2 : Pos} (hc : X.calm = true) (tk : Takes X W) (e : ErrP X.K X.mg x C) (hg : Gl X x) (hdb : (x == ("__debug__" : Str)) = false := by decide) :
    PS X (.Raise (some (.Call (.Name x p) [.Constant (.str m) j p2] [] pos)) none pos2) (fun _ σ H => W (.ref C) none σ H) :=
  ps_raise hc tk (pmk_own PySem.F.excBase_ValueError e.ex e.gl e.kp (raises_own e.sub e.ty) hg hdb)
end Ly
namespace Ly
open PySem L2 PySem.Spec PyProof.Rows
/-- isinstance(e, c) of a caught exception: its class told by the rule -/
def rIsE2 (K : PySem.W.Frag) (D a : Addr) (cls : Value) (d : Option Addr) : List V → Hp → VK → Prop := fun xs H Q => cls = .ref D ∧ d = none ∧ rIsE K D a xs H Q
section
variable {W : Wd} {K : PySem.W.Frag} {Γ : List (Option Dat)} {ta tb tc te : TE} {D a c : Addr} {b : Bool} {σ : L2.St} {H : Hp} {Q : VK} {i : Nat}
end
end Ly
namespace Ly
open PySem L2 PySem.Spec PyProof.Rows
section
variable {W : Wd} {K : PySem.W.Frag} {Γ : List (Option Dat)} {ta tb tc te tl tn : TE} {tt : TT}
/-- [f(x) for x in us] -/
theorem n_lcM {α : Type} {j : Nat} {us : List α} {f g : α → Dat} (h : EvX W K tl Γ (.lst (us.map f))) (hl : us.length < 100000) (he : ∀ x, x ∈ us → EvX W K te ((wipeG Γ [j]).set j (some (f x))) (g x)) :
    EvN W K (tLc (iList K tl) (gName j) tYes te [j]) Γ (· = us.map g) :=
  n_lcL (fun i ds => ds = (us.take i).map g) h rfl (fun i d hd => by
    rw [List.getElem?_map] at hd
    cases e : us[i]? with
    | none =>
      rw [e] at hd
      cases hd
    | some x =>
      rw [e] at hd
      have ed : f x = d := Option.some.inj hd
      subst ed
      refine tn_each (fun ds e => by rw [e, List.length_map, List.length_take]; omega) fun ds e2 => (he x (List.mem_of_getElem? e)).imp fun d ed => ?_
      rw [e2, ed, List.take_succ, e]
      simp) fun ds e => by
    rw [List.length_map, List.take_length] at e
    exact e
end
end Ly
namespace Ly
open PySem L2 PySem.Spec PyProof.Rows
section
variable {W : Wd} {K : PySem.W.Frag} {Γ : List (Option Dat)} {te : TE}
theorem EvN.imp {P R : List Dat → Prop} (h : EvN W K te Γ P) (i : ∀ ds, P ds → R ds) : EvN W K te Γ R := fun σ G H n k Q q => h σ G H n k Q fun p xs ds G2 H2 s a b c r e => q p xs ds G2 H2 s a b c r (i ds e)
end
end Ly

set_option maxHeartbeats 4000000
namespace Ly
open PySem L2 PySem.Spec PyProof.Rows
section
variable {W : Wd} {K : PySem.W.Frag} {Γ : List (Option Dat)} {ta tb tc te tl tv : TE} {tt tu : TT} {tA : TA} {P R S : Dat → Prop} {d a b : Dat} {G1 G0 H0 G H G2 H2 : Hp} {O : List (Addr × List Dat)} {σ : L2.St} {D : Ends} {tz ts tw : TS}
/-- an own list is known for a while; behind it, it is the body's own again -/
theorem S4.peek {l : Addr} {ds : List Dat} {i : Nat} (hi : Γ[i]? = some (some (.adr l))) (hn : NLs ds) (S : S4 W K G1 G0 H0 Γ ((l, ds) :: O) σ G H) : ∃ Gk, S4 W K Gk G0 H0 (Γ.set i (some (.lst ds))) O σ Gk H ∧
    ∀ {Γ' : List (Option Dat)} {O' : List (Addr × List Dat)} {σ' : L2.St} {G' H' : Hp}, S4 W K Gk G0 H0 Γ' O' σ' G' H' → σ'[i]? = σ[i]? → NLG i 0 Γ' → (∀ k es, (k, es) ∈ O' → NLs es) → ∃ G'', S4 W K G1 G0 H0 (Γ'.set i (some (.adr l))) ((l, ds) :: O') σ' G'' H' := by
  obtain ⟨t, e1, G2, S2, xs, h1, h2⟩ := S.keepT hi
  exact ⟨G2, S2.here, fun {Γ' O' σ' G' H'} S' es hΓ hO => ⟨del G' l, S4.thaw t (es.trans e1) ⟨xs, S'.fr _ _ h1, h2.mono S'.fr⟩ (S'.base S2.fr) hn hΓ.of hO⟩⟩
abbrev rMin2 : List V → Hp → VK → Prop := fun xs H Q => ∃ i j, xs = [.int i, .int j] ∧ Q (.int (if j < i then j else i)) H
theorem v_min2 {i j : Int} (ha : EvX W K ta Γ (.int i)) (hb : EvX W K tb Γ (.int j)) : EvX W K (tCB rMin2 (tCons ta (tCons tb tNil))) Γ (.int (if j < i then j else i)) := v_cbx (a_consx ha (a_consx hb a_nil)) fun G H xs k r Q q => by
  cases r with
  | cons r1 r =>
    cases r with
    | cons r2 r =>
      cases r
      cases r1
      cases r2
      exact ⟨i, j, rfl, q.here k (.int _) rfl⟩
end
end Ly

set_option maxHeartbeats 4000000
namespace Ly
open PySem L2 PySem.Spec PyProof.Rows
section
variable {W : Wd} {K : PySem.W.Frag} {Γ : List (Option Dat)} {ta tb tc te tl tv tn : TE} {tt tu : TT} {tA : TA} {P R S : Dat → Prop} {d a b : Dat} {G1 G0 H0 G H G2 H2 : Hp} {O : List (Addr × List Dat)} {σ : L2.St} {D : Ends} {tz ts tw : TS}
end
/-! ## what the laws share -/
theorem nls_ints : ∀ ns : List Int, NLs (dI ns) := NLs.ints
theorem dI_set (xs : List Int) (j : Nat) (x : Int) : (dI xs).set j (.int x) = dI (xs.set j x) := (List.map_set ..).symm
/-- many draws -/
def IsDr (m : Int) (d : Dat) : Prop := ∃ ns : List Int, d = .lst (dI ns) ∧ (ns.length : Int) = m ∧ InB 4096 ns
def A_some (p : Addr) : Sig := fun ds P => ∃ m : Int, 0 ≤ m ∧ m ≤ 1000 ∧ ds = [.adr p, .int m] ∧ P = IsDr m
def spSome (K : PySem.W.Frag) : Sp := fun vs H Q E => ∃ p c ns, spOf (WP p c ns) K (A_some p) vs H Q E
/-- a def that draws, by its signature -/
def spD (K : PySem.W.Frag) (A : Addr → Sig) : Sp := fun vs H Q E => ∃ p c ns, spOf (WP p c ns) K (A p) vs H Q E
section
variable {W : Wd} {K : PySem.W.Frag} {Γ : List (Option Dat)} {ta tb tc te : TE} {tA : TA} {p c : Addr} {ns : List Int} {E : XK} {P : Dat → Prop}
end
theorem drawn_at {m : Int} {ns : List Int} (h : InB m ns) {i : Nat} (hi : i < ns.length) : ∃ a, ns[i]? = some a ∧ 0 ≤ a ∧ a < m := ⟨ns[i], List.getElem?_eq_getElem hi, h _ (List.getElem_mem _)⟩
end Ly
namespace Ly
open PySem L2 PySem.Spec PyProof.Rows
section
variable {W : Wd} {K : PySem.W.Frag} {Γ : List (Option Dat)} {te tn : TE}
end
end Ly

set_option maxHeartbeats 4000000
namespace Ly
open PySem L2 PySem.Spec PyProof.Rows
section
variable {X : Cx} {k j : Nat} {x : Str} {sp : Sp} {dvs : List V} {p pos : Pos}
end
section
variable {W : Wd} {K : PySem.W.Frag} {Γ : List (Option Dat)} {ta tb tc te tl tv tn : TE} {tt tu : TT} {tA : TA} {P S : Dat → Prop} {d a b : Dat} {G1 G0 H0 G H G2 H2 : Hp} {O : List (Addr × List Dat)} {σ : L2.St} {D : Ends} {tz ts tw : TS}
/-- the same, the place told by what it is -/
theorem g_putR {l : Addr} {ds : List Dat} {i : Nat} {R : Nat → Prop} (hi0 : Γ[i]? = some (some (.adr l))) (hn : NLs ds) (hG : NLG i 0 Γ) (hO : ∀ k es, (k, es) ∈ O → NLs es) (h : Ev W K te (Γ.set i (some (.lst ds))) P) (hp : ∀ d, P d → NL d) (hi : Ev W K tb (Γ.set i (some (.lst ds))) fun e => ∃ j : Nat, e = .int (j : Int) ∧ j < ds.length ∧ R j) (S : S4 W K G1 G0 H0 Γ ((l, ds) :: O) σ G H)
    (k : ∀ (j : Nat) d G2 H2, j < ds.length → R j → P d → S4 W K G1 G0 H0 Γ ((l, ds.set j d) :: O) σ G2 H2 → D.nx σ H2) : tAsg te (gSub (tVar i) tb rSetL) D σ H := by
  obtain ⟨t, e1, Gk, Sk, xs, x1, x2⟩ := S.keepT hi0
  refine h σ Gk H Sk.env Sk.ok _ fun v d G2 H2 s p r => ?_
  have S2 := Sk.step s
  refine ⟨.ref l, e1, ?_⟩
  refine hi σ G2 H2 S2.env S2.ok _ fun y e G4 H4 s4 ⟨j, ej, j0, j1⟩ r4 => ?_
  subst ej
  cases r4
  have S4' := S2.step s4
  have g4 : G4 l = some (.lst xs) := s4.gg _ _ (s.gg _ _ x1)
  have lenΓ : i < Γ.length := by
    rcases Nat.lt_or_ge i Γ.length with z | z
    · exact z
    · rw [List.getElem?_eq_none z] at hi0
      cases hi0
  have S5 := S4.thaw t e1 ⟨xs, g4, (x2.mono s.gg).mono s4.gg⟩ S4' hn (fun j d hj hd => by
    rw [List.getElem?_set_ne (Ne.symm hj)] at hd
    exact hG.of j d hj hd) hO
  have eΓ : ((Γ.set i (some (.lst ds))).set i (some (.adr l))) = Γ := by
    rw [List.set_set]
    apply List.ext_getElem?
    intro n
    by_cases hz : i = n
    · subst hz
      rw [List.getElem?_set_self lenΓ, hi0]
    · rw [List.getElem?_set_ne hz]
  rw [eΓ] at S5
  obtain ⟨ys, h1, h2⟩ := (S5.own l ds List.mem_cons_self).at'
  have hlen := h2.length
  refine ⟨l, ys, (j : Int), j, rfl, rfl, h1, ?_, ?_⟩
  · unfold ixN
    rw [if_pos (by omega), if_pos (by omega)]
    rfl
  · exact k j d _ _ j0 j1 p (S5.put (h2.set (Rep.thaw g4 (hp d p) (r.mono s4.gg)) j))
theorem q_putR {l : Addr} {ds : List Dat} {i : Nat} {R : Nat → Prop} (hi0 : Γ[i]? = some (some (.adr l))) (hn : NLs ds) (hG : NLG i 0 Γ) (hO : ∀ k es, (k, es) ∈ O → NLs es) (h : Ev W K te (Γ.set i (some (.lst ds))) P) (hp : ∀ d, P d → NL d) (hi : Ev W K tb (Γ.set i (some (.lst ds))) fun e => ∃ j : Nat, e = .int (j : Int) ∧ j < ds.length ∧ R j) (S : S4 W K G1 G0 H0 Γ ((l, ds) :: O) σ G H)
    (k : ∀ (j : Nat) d G2 H2, j < ds.length → R j → P d → S4 W K G1 G0 H0 Γ ((l, ds.set j d) :: O) σ G2 H2 → tz D σ H2) : tSeq (tAsg te (gSub (tVar i) tb rSetL)) tz D σ H := g_putR (D := { D with nx := tz D }) hi0 hn hG hO h hp hi S k
end
end Ly

set_option maxHeartbeats 4000000
namespace Ly
open PySem L2 PySem.Spec PyProof.Rows
section
variable {X : Cx}
/-- a op= b of ints under a condition -/
def ipC (C : Int → Int → Prop) (f : Int → Int → Int) : TIp := fun x y H Q => ∃ i j, x = .int i ∧ y = .int j ∧ C i j ∧ Q (.int (f i j)) H
theorem ip_mulW : PIp X .Mult (ipC CMulW fun i j => i * j) := by
  intro pins s σ H x y v u Q I ra rb ⟨i, j, ex, ey, c, q⟩
  subst ex ey
  obtain ⟨t, rfl⟩ := ra
  obtain ⟨t', rfl⟩ := rb
  exact imul_int ⟨.int _, H, I.tok _, ⟨_, rfl⟩, q⟩ c.ok
end
theorem log_lt {i : Int} {k : Nat} (h : i.natAbs < 2 ^ k) (hk : 0 < k) : i.natAbs.log2 < k := by
  by_cases z : i.natAbs = 0
  · rw [z]
    exact hk
  · exact (Nat.log2_lt z).mpr h
theorem mulW_of {i j : Int} (hi : i.natAbs < 2 ^ 250) (hj : j.natAbs < 2 ^ 250) : CMulW i j := by
  have h1 := log_lt hi (by omega)
  have h2 := log_lt hj (by omega)
  show _ + _ < 1000000
  omega
section
variable {W : Wd} {K : PySem.W.Frag} {Γ : List (Option Dat)} {ta tb tc te tl tv tn : TE} {tt tu : TT} {tA : TA} {P R S : Dat → Prop} {d a b : Dat} {G1 G0 H0 G H G2 H2 : Hp} {O : List (Addr × List Dat)} {σ : L2.St} {D : Ends} {tz ts tw : TS}
theorem g_augC {i : Nat} {C : Int → Int → Prop} {f : Int → Int → Int} {a b : Int} (hx : Γ[i]? = some (some (.int a))) (h : EvX W K te Γ (.int b)) (hc : C a b) (S : S4 W K G1 G0 H0 Γ O σ G H) (k : ∀ σ2 G2 H2, S4 W K G1 G0 H0 (Γ.set i (some (.int (f a b)))) O σ2 G2 H2 → D.nx σ2 H2) : tAug i te (ipC C f) D σ H := by
  obtain ⟨v, h1, h2⟩ := S.env.at' i _ hx
  cases h2
  refine ⟨.int a, h1, h σ G H S.env S.ok _ fun y d G2 H2 s e r => ?_⟩
  subst e
  cases r
  exact ⟨a, b, rfl, rfl, hc, k _ G2 H2 ((S.step s).set (.int _))⟩
theorem q_augC {i : Nat} {C : Int → Int → Prop} {f : Int → Int → Int} {a b : Int} (hx : Γ[i]? = some (some (.int a))) (h : EvX W K te Γ (.int b)) (hc : C a b) (S : S4 W K G1 G0 H0 Γ O σ G H) (k : ∀ σ2 G2 H2, S4 W K G1 G0 H0 (Γ.set i (some (.int (f a b)))) O σ2 G2 H2 → tz D σ2 H2) : tSeq (tAug i te (ipC C f)) tz D σ H := g_augC (D := { D with nx := tz D }) hx h hc S k
abbrev rInsert : V → List V → Hp → VK → Prop := fun x vs H Q => ∃ (l : Addr) (xs : List V) (i : Int) (y : V), x = .ref l ∧ vs = [.int i, y] ∧ H l = some (.lst xs) ∧ xs.length < sizeLine ∧ 0 ≤ i ∧ i < 2 ^ 63 ∧ Q .non (upd H l (.lst (xs.take i.toNat ++ [y] ++ xs.drop i.toNat)))
/-- for a, b in pairs: over a list, a tuple -/
theorem g_forL2 {ds : List Dat} {tl : TE} {js : List Nat} {tb : TS} {us : Dat → List Dat} (h : EvX W K tl Γ (.lst ds)) (hu : ∀ d, d ∈ ds → d = .tup (us d) ∧ (us d).length = js.length) (S : S4 W K G1 G0 H0 Γ O σ G H) (I : Nat → List (Option Dat) → List (Addr × List Dat) → Prop) (h0 : I 0 Γ O)
    (hs : ∀ G1 (i : Nat) d Γ' O' σ' G' H', ds[i]? = some d → I i Γ' O' → S4 W K G1 G0 H0 (setsG Γ' js (us d)) O' σ' G' H' → tb { D with nx := Word W K G1 G0 H0 (I (i + 1)), ct := Word W K G1 G0 H0 (I (i + 1)), bk := D.nx } σ' H')
    (hd : ∀ Γ' O' σ' G' H', I ds.length Γ' O' → S4 W K G1 G0 H0 Γ' O' σ' G' H' → D.nx σ' H') : tFor (iList K tl) (gTup K js.length (gNames js)) tb D σ H :=
  h σ G H S.env S.ok _ fun v d G2 H2 s e r => by
    subst e
    obtain ⟨a, xs, rfl, hx, r⟩ := r.lst_inv
    have S2 := S.step s
    have hl := r.length
    refine ⟨a, rfl, ⟨xs, ex_l S2.ok.ex hx⟩, for_list (fun i σ' H' => Word W K G2 G0 H0 (I i) σ' H') ⟨Γ, O, G2, h0, S2.here⟩ (fun i σ' H' _ ⟨Γ', O', G', _, S'⟩ => ex_l (S'.fr.trans S'.ok.ex) hx) (fun i x σ' H' hi ⟨Γ', O', G', hI, S'⟩ => ?_) (fun σ' H' ⟨Γ', O', G', hI, S'⟩ => hd Γ' O' σ' G' H' (by rw [← hl]; exact hI) (S'.base S2.fr))⟩
    obtain ⟨d, hd', rd⟩ := r.getV hi
    obtain ⟨eu, el⟩ := hu d (List.mem_of_getElem? hd')
    rw [eu] at rd
    obtain ⟨p, zs, rfl, hz, rz⟩ := rd.tup_inv
    exact ⟨p, zs, rfl, ex_t (S'.fr.trans S'.ok.ex) hz, by rw [rz.length]; exact el, gNames_run (js := js) (rz.mono S'.fr) el.symm S' fun σ2 S3 => hs G2 i d Γ' O' σ2 G' H' hd' hI S3⟩
theorem q_forL2 {ds : List Dat} {tl : TE} {js : List Nat} {tb : TS} {us : Dat → List Dat} (h : EvX W K tl Γ (.lst ds)) (hu : ∀ d, d ∈ ds → d = .tup (us d) ∧ (us d).length = js.length) (S : S4 W K G1 G0 H0 Γ O σ G H) (I : Nat → List (Option Dat) → List (Addr × List Dat) → Prop) (h0 : I 0 Γ O)
    (hs : ∀ G1 (i : Nat) d Γ' O' σ' G' H', ds[i]? = some d → I i Γ' O' → S4 W K G1 G0 H0 (setsG Γ' js (us d)) O' σ' G' H' → tb { D with nx := Word W K G1 G0 H0 (I (i + 1)), ct := Word W K G1 G0 H0 (I (i + 1)), bk := tz D } σ' H')
    (hd : ∀ Γ' O' σ' G' H', I ds.length Γ' O' → S4 W K G1 G0 H0 Γ' O' σ' G' H' → tz D σ' H') : tSeq (tFor (iList K tl) (gTup K js.length (gNames js)) tb) tz D σ H := g_forL2 (D := { D with nx := tz D }) h hu S I h0 hs hd
/-- for k in range(lo, hi) -/
theorem g_for2 {lo hi : Int} {j : Nat} {tb : TS} (h : EvAX W K tA Γ [.int lo, .int hi]) (h1 : -100000 ≤ lo ∧ lo ≤ 100000 ∧ -100000 ≤ hi ∧ hi ≤ 100000) (S : S4 W K G1 G0 H0 Γ O σ G H) (I : Nat → List (Option Dat) → List (Addr × List Dat) → Prop) (h0 : I 0 Γ O)
    (hs : ∀ (i : Nat) Γ' O' σ' G' H', lo + i < hi → I i Γ' O' → S4 W K G1 G0 H0 (Γ'.set j (some (.int (lo + i)))) O' σ' G' H' → tb { D with nx := Word W K G1 G0 H0 (I (i + 1)), ct := Word W K G1 G0 H0 (I (i + 1)), bk := D.nx } σ' H')
    (hd : ∀ Γ' O' σ' G' H', I (hi - lo).toNat Γ' O' → S4 W K G1 G0 H0 Γ' O' σ' G' H' → D.nx σ' H') : tFor (iRng2 tA) (gName j) tb D σ H :=
  h σ G H S.env S.ok _ fun vs ds G2 H2 s e r => by
    subst e
    cases r with
    | cons r r0 =>
      cases r0 with
      | cons r' r0 =>
        cases r0
        cases r
        cases r'
        exact ⟨lo, hi, rfl, ⟨by omega, by omega, by omega, by omega⟩, g_forR (lo := lo) I h0 (S.step s) (fun i Γ' O' σ' G' H' hlt hI S' => hs i Γ' O' σ' G' H' (by omega) hI S') hd⟩
theorem q_for2 {lo hi : Int} {j : Nat} {tb : TS} (h : EvAX W K tA Γ [.int lo, .int hi]) (h1 : -100000 ≤ lo ∧ lo ≤ 100000 ∧ -100000 ≤ hi ∧ hi ≤ 100000) (S : S4 W K G1 G0 H0 Γ O σ G H) (I : Nat → List (Option Dat) → List (Addr × List Dat) → Prop) (h0 : I 0 Γ O)
    (hs : ∀ (i : Nat) Γ' O' σ' G' H', lo + i < hi → I i Γ' O' → S4 W K G1 G0 H0 (Γ'.set j (some (.int (lo + i)))) O' σ' G' H' → tb { D with nx := Word W K G1 G0 H0 (I (i + 1)), ct := Word W K G1 G0 H0 (I (i + 1)), bk := tz D } σ' H')
    (hd : ∀ Γ' O' σ' G' H', I (hi - lo).toNat Γ' O' → S4 W K G1 G0 H0 Γ' O' σ' G' H' → tz D σ' H') : tSeq (tFor (iRng2 tA) (gName j) tb) tz D σ H := g_for2 (D := { D with nx := tz D }) h h1 S I h0 hs hd
end
end Ly

set_option maxHeartbeats 4000000
namespace Ly
open PySem L2 PySem.Spec PyProof.Rows
theorem Wk.set {Γ Γ' : List (Option Dat)} (w : Wk Γ Γ') : ∀ (i : Nat) (x : Option Dat), Wk (Γ.set i x) (Γ'.set i x) := by
  induction w with
  | nil => exact fun _ _ => .nil
  | keep w ih =>
    intro i x
    cases i with
    | zero => exact .keep w
    | succ i => exact .keep (ih i x)
  | drop w ih =>
    intro i x
    cases i with
    | zero => exact .keep w
    | succ i => exact .drop (ih i x)
section
variable {W : Wd} {K : PySem.W.Frag} {Γ : List (Option Dat)} {ta tb tc te tl tv tn : TE} {tt tu : TT} {tA : TA} {P R S : Dat → Prop} {d a b : Dat} {G1 G0 H0 G H G2 H2 : Hp} {O : List (Addr × List Dat)} {σ : L2.St} {D : Ends} {tz ts tw : TS}
end
end Ly

set_option maxHeartbeats 4000000
namespace Ly
open PySem L2 PySem.Spec PyProof.Rows
section
variable {W : Wd} {K : PySem.W.Frag} {Γ : List (Option Dat)} {ta tb tc te tl tv tn : TE} {tt tu : TT} {tA : TA} {P R S : Dat → Prop} {d a b : Dat} {G1 G0 H0 G H G2 H2 : Hp} {O : List (Addr × List Dat)} {σ : L2.St} {D : Ends} {tz ts tw : TS}
end
end Ly

set_option maxHeartbeats 4000000
namespace Ly
open PySem L2 PySem.Spec PyProof.Rows
section
variable {W : Wd} {K : PySem.W.Frag} {Γ : List (Option Dat)} {ta tb tc te tl tv tn : TE} {tt tu : TT} {tA : TA} {P R : Dat → Prop} {d a b : Dat} {G1 G0 H0 G H G2 H2 : Hp} {O : List (Addr × List Dat)} {σ : L2.St} {D : Ends} {tz ts tw : TS}
/-! ## reading of own lists -/
theorem S4.lookG {l : Addr} {ds : List Dat} {i : Nat} (hi : Γ[i]? = some (some (.adr l))) (hm : (l, ds) ∈ O) (S : S4 W K G1 G0 H0 Γ O σ G H) :
    ∃ G', Env K G' σ (Γ.set i (some (.lst ds))) ∧ Ok W G' H ∧ ∀ G2 H2, Stp W G' H G2 H2 → S4 W K G1 G0 H0 Γ O σ (del G2 l) H2 ∧ Stp W G H (del G2 l) H2 ∧ ∃ xs, G2 l = some (.lst xs) := by
  have o := S.own l ds hm
  obtain ⟨xs, h1, h2⟩ := o.at'
  have gg : Ex G (upd G l (.lst xs)) := Ex.new o.g
  have eg : Ex (upd G l (.lst xs)) H := fun a u e => by
    by_cases ea : a = l
    · subst ea
      rw [upd_same] at e
      rw [h1]
      exact e
    · rw [upd_ne ea] at e
      exact S.ok.ex a u e
  have ok' : Ok W (upd G l (.lst xs)) H := ⟨eg, S.ok.inv, fun a ha => by
    have ne : a ≠ l := fun e => o.m (e ▸ ha)
    rw [upd_ne ne]
    exact S.ok.off a ha⟩
  have env' : Env K (upd G l (.lst xs)) σ (Γ.set i (some (.lst ds))) := by
    obtain ⟨v, e1, e2⟩ := S.env.at' i _ hi
    have e3 := e2.adr_inv
    subst e3
    have q : Env K (upd G l (.lst xs)) (σ.set i (some (.ref l))) (Γ.set i (some (.lst ds))) := (S.env.mono gg).set (.lst (l_of upd_same) (h2.mono gg))
    have e4 : σ.set i (some (.ref l)) = σ := by
      apply List.ext_getElem?
      intro j
      by_cases hj : i = j
      · subst hj
        have hlt : i < σ.length := by
          rcases Nat.lt_or_ge i σ.length with q | q
          · exact q
          · rw [List.getElem?_eq_none q] at e1
            cases e1
        rw [List.getElem?_set_self hlt, e1]
      · rw [List.getElem?_set_ne hj]
    rw [e4] at q
    exact q
  refine ⟨_, env', ok', fun G2 H2 s => ?_⟩
  have g2 : G2 l = some (.lst xs) := s.gg _ _ upd_same
  have st : Stp W G H (del G2 l) H2 := ⟨fun a u e => by
      rw [del_ne (ne_of_none e o.g)]
      exact s.gg a u (gg a u e), fun a u e => by
      by_cases ea : a = l
      · subst ea
        rw [del_same] at e
        cases e
      · rw [del_ne ea] at e
        exact s.gh a u e, s.hh, fun a u e => by
      by_cases ea : a = l
      · subst ea
        rw [del_same] at e
        cases e
      · rw [del_ne ea] at e
        rcases s.nw a u e with q | q
        · rw [upd_ne ea] at q
          exact .inl q
        · exact .inr q, s.inv⟩
  exact ⟨S.step st, st, xs, g2⟩
/-- the own list at l is looked at while an expression is found -/
theorem S4.look {l : Addr} {ds : List Dat} {i : Nat} (hi : Γ[i]? = some (some (.adr l))) (hm : (l, ds) ∈ O) (h : Ev W K te (Γ.set i (some (.lst ds))) P) (hp : ∀ d, P d → NL d) (S : S4 W K G1 G0 H0 Γ O σ G H) {Q : VK}
    (k : ∀ v d G2 H2, S4 W K G1 G0 H0 Γ O σ G2 H2 → P d → Rep K G2 v d → Q v H2) : te σ H Q := by
  obtain ⟨G', e, o, f⟩ := S.lookG hi hm
  refine h σ G' H e o Q fun v d G2 H2 s p r => ?_
  obtain ⟨S2, _, xs, g2⟩ := f G2 H2 s
  exact k v d _ H2 S2 p (Rep.thaw g2 (hp d p) r)
/-! statements that look at an own list -/
theorem g_setL {l : Addr} {ds : List Dat} {i j : Nat} (hi : Γ[i]? = some (some (.adr l))) (hm : (l, ds) ∈ O) (h : Ev W K te (Γ.set i (some (.lst ds))) P) (hp : ∀ d, P d → NL d) (S : S4 W K G1 G0 H0 Γ O σ G H)
    (k : ∀ d σ2 G2 H2, P d → S4 W K G1 G0 H0 (Γ.set j (some d)) O σ2 G2 H2 → D.nx σ2 H2) : tAsg te (gName j) D σ H :=
  S.look hi hm h hp fun v d G2 H2 S2 p r => k d _ G2 H2 p (S2.set r)
/-! ## pop as a value; targets of a value -/
theorem t_names {v : V} {js : List Nat} {n : Nat} {ds : List Dat} {Q : L2.St → Hp → Prop} (r : Rep K G v (.tup ds)) (hn : ds.length = n) (hj : js.length = n) (S : S4 W K G1 G0 H0 Γ O σ G H) (k : ∀ σ2, S4 W K G1 G0 H0 (setsG Γ js ds) O σ2 G H → Q σ2 H) : gTup K n (gNames js) v σ H Q := by
  obtain ⟨a, xs, rfl, hs, r⟩ := r.tup_inv
  exact ⟨a, xs, rfl, ex_t S.ok.ex hs, by rw [r.length]; exact hn, gNames_run (js := js) r (hj.trans hn.symm) S k⟩
/-! ## append of what a value with effects gives -/
theorem g_appX {l : Addr} {ds : List Dat} (ho : EvX W K ta Γ (.adr l)) (S : S4 W K G1 G0 H0 Γ ((l, ds) :: O) σ G H)
    (h : ∀ G2 H2, S4 W K G1 G0 H0 Γ ((l, ds) :: O) σ G2 H2 → ∀ Q : VK, (∀ v d es G3 H3, S4 W K G1 G0 H0 Γ ((l, es) :: O) σ G3 H3 → es.length < 100000 → Rep K G3 v d → (∀ G4 H4, S4 W K G1 G0 H0 Γ ((l, es ++ [d]) :: O) σ G4 H4 → D.nx σ H4) → Q v H3) → te σ H2 Q) :
    tDrop (tBM K "list" rAppend ta (tCons te tNil)) D σ H := ho σ G H S.env S.ok _ fun v d G2 H2 s e r => by
  subst e
  cases r
  have S2 := S.step s
  obtain ⟨xs, h1, _⟩ := (S2.own l ds List.mem_cons_self).at'
  refine ⟨.inl ⟨rfl, xs, l_of h1⟩, ?_⟩
  refine h G2 H2 S2 _ fun y dy es G3 H3 S3 hz ry k => ?_
  obtain ⟨ys, h3, h4⟩ := (S3.own l es List.mem_cons_self).at'
  refine ⟨l, ys, y, rfl, rfl, h3, by rw [h4.length]; exact sz_lt hz, ?_⟩
  exact k G3 _ (S3.put (h4.append (.cons ry .nil)))
/-! ## a while whose test looks at the state -/
end
section
variable {X : Cx}
/-- xs.extend(t), t a tuple -/
def rExtT (K : PySem.W.Frag) : V → List V → Hp → VK → Prop := fun x vs H Q => ∃ l b xs zs, x = .ref l ∧ vs = [.ref b] ∧ H l = some (.lst xs) ∧ SqT K H b zs ∧ xs.length + zs.length ≤ sizeLine ∧ Q .non (upd H l (.lst (xs ++ zs)))
end
section
variable {W : Wd} {K : PySem.W.Frag} {Γ : List (Option Dat)} {ta tb tc te tl tv tn : TE} {tt tu : TT} {tA : TA} {P R : Dat → Prop} {d a b : Dat} {G1 G0 H0 G H G2 H2 : Hp} {O : List (Addr × List Dat)} {σ : L2.St} {D : Ends} {tz ts tw : TS}
end
/-! ## texts -/
section
variable {W : Wd} {K : PySem.W.Frag} {Γ : List (Option Dat)} {ta tb tc te tl tv tn : TE} {tt tu : TT} {tA : TA} {P R : Dat → Prop} {d a b : Dat} {G1 G0 H0 G H G2 H2 : Hp} {O : List (Addr × List Dat)} {σ : L2.St} {D : Ends} {tz ts tw : TS}
/-- a text by its signs -/
abbrev sg (c : Nat) : Str := ⟨#[c]⟩
abbrev tx (cs : List Nat) : Str := ⟨cs.toArray⟩
end
end Ly

set_option maxHeartbeats 4000000
namespace Ly
open PySem L2 PySem.Spec PyProof.Rows
/-! ## a dict of the module: str keys, ints as values -/
/-- the written dict at d: its keys in order, with their ints -/
structure KDi (K : PySem.W.Frag) (w : World) (d : Addr) (ks : List (Str × Int)) : Prop where
  ex : ∃ es n, KDict K w d es n ∧ es.size = ks.length ∧ (∀ (i : Nat) (h : i < es.size) k, ks[i]? = some k → ∃ t, es[i].key = .str k.1 t)
  get : ∀ x : Str, ∃ r, PySem.W.nsIn K d x = some r ∧ match ks.lookup x with
    | some v => ∃ t, r = some (.int v t)
    | none => r = none
def Itkd (ks : List (Str × Int)) : It := ⟨fun i _ => i < ks.length, fun i H x H' => H' = H ∧ ∃ k, ks[i]? = some k ∧ x = .str k.1, fun i _ => ks.length ≤ i⟩
section
variable {P : Program} {w : World} {K : PySem.W.Frag} {tg : Expr} {d : Addr} {es : Array DictEntry} {ep : Nat} {ks : List (Str × Int)}
/-- for k in D, D a dict of the module -/
def iKd (ks : List (Str × Int)) (d : Addr) (td : TE) : TI := fun σ H R => td σ H fun x H1 => x = .ref d ∧ R (Itkd ks) H1
end
/-- k in D -/
def rInD (ks : List (Str × Int)) (d : Addr) : R2 := fun x y H Q => ∃ z, x = .str z ∧ y = .ref d ∧ Q (.bl (ks.lookup z).isSome) H
def rNotInD (ks : List (Str × Int)) (d : Addr) : R2 := fun x y H Q => ∃ z, x = .str z ∧ y = .ref d ∧ Q (.bl (!(ks.lookup z).isSome)) H
/-- D[k] -/
def rIxDi (ks : List (Str × Int)) (d : Addr) : R2 := fun x y H Q => ∃ z v, x = .ref d ∧ y = .str z ∧ ks.lookup z = some v ∧ Q (.int v) H
section
variable {W : Wd} {K : PySem.W.Frag} {Γ : List (Option Dat)} {ta tb tc te tl tv tn : TE} {tt tu : TT} {tA : TA} {P R : Dat → Prop} {d a b : Dat} {G1 G0 H0 G H G2 H2 : Hp} {O : List (Addr × List Dat)} {σ : L2.St} {D : Ends} {tz ts tw : TS} {dx : Addr} {ks : List (Str × Int)}
/-! ## texts -/
end

section
variable {X : Cx}
/-- z[::-1] of a text -/
def revS (z : Str) : Str := ⟨((Builtin.Str.strSliceIndices none none (-1) z.length).filterMap (z.cps[·]?)).toArray⟩
def tRevS (te : TE) : TE := fun σ H Q => te σ H fun x H1 => ∃ z, x = .str z ∧ (revS z).length ≤ sizeLine ∧ Q (.str (revS z)) H1
end
end Ly

set_option maxHeartbeats 4000000
namespace Ly
open PySem L2
/-! # terms of letters -/
inductive Tm where
  | lf (c : Nat)
  | ap (l r : Tm)
deriving DecidableEq
namespace Tm
def D : Tm → Dat
  | lf c => .str (sg c)
  | ap l r => .tup [l.D, r.D]
def isAp : Tm → Bool
  | lf _ => false
  | ap _ _ => true
/-- the number of letters, of pairs, of parts -/
def size : Tm → Nat
  | lf _ => 1
  | ap l r => l.size + r.size
def pairs : Tm → Nat
  | lf _ => 0
  | ap l r => l.pairs + r.pairs + 1
def deep : Tm → Nat
  | lf _ => 0
  | ap l r => max l.deep r.deep + 1
def head : Tm → Nat
  | lf c => c
  | ap l _ => l.head
/-- the arguments, the one next to the head last -/
def args : Tm → List Tm
  | lf _ => []
  | ap l r => r :: l.args
def wound (t : Tm) : List Tm → Tm
  | [] => t
  | a :: as => ap (wound t as) a
def sizes (ts : List Tm) : Nat := (ts.map size).sum
/-! ## what a term is as data -/
theorem nl : ∀ t : Tm, NL t.D
  | lf c => by simp [D, NL]
  | ap l r => by
    have h1 := l.nl
    have h2 := r.nl
    simp [D, NL, NLs, h1, h2]
theorem typed (t : Tm) : Ly.typed t.D = true := by cases t <;> rfl
theorem pl_sg {n c : Nat} (h : PyData.strOk (sg c) = true) : Pl n (.str (sg c)) := by cases n <;> simpa [Pl] using h
/-- each letter is one of a list -/
def Lt (cs : List Nat) : Tm → Prop
  | lf c => c ∈ cs
  | ap l r => l.Lt cs ∧ r.Lt cs
theorem Lt.mono {cs ds : List Nat} (h : ∀ c ∈ cs, c ∈ ds) : ∀ {t : Tm}, t.Lt cs → t.Lt ds
  | lf _, p => h _ p
  | ap _ _, p => ⟨Lt.mono h p.1, Lt.mono h p.2⟩
theorem Lt.head {cs : List Nat} : ∀ {t : Tm}, t.Lt cs → t.head ∈ cs
  | lf _, p => p
  | ap l _, p => Lt.head (t := l) p.1
theorem Lt.args {cs : List Nat} : ∀ {t : Tm}, t.Lt cs → ∀ u ∈ t.args, u.Lt cs
  | lf _, _, u, h => by cases h
  | ap l r, p, u, h => by
    rcases List.mem_cons.mp h with e | h
    · rw [e]
      exact p.2
    · exact Lt.args (t := l) p.1 u h
theorem Lt.wound {cs : List Nat} {t : Tm} (ht : t.Lt cs) : ∀ {as : List Tm}, (∀ u ∈ as, u.Lt cs) → (Tm.wound t as).Lt cs
  | [], _ => ht
  | a :: as, h => ⟨Lt.wound ht fun u hu => h u (List.mem_cons_of_mem _ hu), h a List.mem_cons_self⟩
theorem pl {cs : List Nat} (hs : ∀ c ∈ cs, PyData.strOk (sg c) = true) : ∀ {n : Nat} {t : Tm}, t.Lt cs → t.deep ≤ n → Pl n t.D
  | n, lf c, h, _ => pl_sg (hs c h)
  | 0, ap l r, _, hn => by
    have : max l.deep r.deep + 1 ≤ 0 := hn
    omega
  | n + 1, ap l r, h, hn => by
    have hn : max l.deep r.deep + 1 ≤ n + 1 := hn
    have h1 := pl hs (n := n) h.1 (by omega)
    have h2 := pl hs (n := n) h.2 (by omega)
    rw [D, Pl]
    exact ⟨by simp, by rw [Pls]; exact ⟨h1, by rw [Pls]; exact ⟨h2, by simp [Pls]⟩⟩⟩
/-! ## the rules of the letters: S 83, K 75, I 73 -/
abbrev need (c : Nat) : Option Nat := if c = 83 then some 3 else if c = 75 then some 2 else if c = 73 then some 1 else none
/-- the head has a rule and its arguments -/
def enough (c : Nat) (as : List Tm) : Bool := match need c with
  | some n => decide (n ≤ as.length)
  | none => false
/-- the rule of the head is used on its first arguments, which come last -/
def used (c : Nat) (as : List Tm) : Tm :=
  match as.reverse with
  | x :: r => if c = 73 then wound x r.reverse else if c = 75 then wound x (r.drop 1).reverse else
    match r with
    | y :: z :: q => wound (ap (ap x z) (ap y z)) q.reverse
    | _ => x
  | [] => lf c
mutual
/-- the step of a term -/
def stepF : Nat → Tm → Option Tm
  | 0, _ => none
  | n + 1, t => if enough t.head t.args = true then some (used t.head t.args) else (stepAt n t.args).map fun as => wound (lf t.head) as
/-- the step in the first argument that has one (the one next to the head is looked at first) -/
def stepAt : Nat → List Tm → Option (List Tm)
  | 0, _ => none
  | n + 1, [] => none
  | n + 1, a :: as => match stepAt n as with
    | some bs => some (a :: bs)
    | none => (stepF n a).map (· :: as)
end
end Tm
end Ly

set_option maxHeartbeats 4000000
namespace Ly
open PySem L2
namespace Tm
/-- a step in an argument -/
def sub : Tm → Option Tm
  | lf _ => none
  | ap l r => match sub l with
    | some l' => some (ap l' r)
    | none => (if enough r.head r.args = true then some (used r.head r.args) else sub r).map (ap l)
def step (t : Tm) : Option Tm := if enough t.head t.args = true then some (used t.head t.args) else sub t
/-- the step in a list of arguments, the last of them looked at first -/
def subA (f : Tm → Option Tm) : List Tm → Option (List Tm)
  | [] => none
  | a :: as => match subA f as with
    | some bs => some (a :: bs)
    | none => (f a).map (· :: as)
/-! ## the search with a stack -/
/-- a part that was looked at: its head, its arguments, where it stands -/
structure Seen where
  h : Nat
  as : List Tm
  ab : Option (Nat × Nat)
/-- a part that waits: where it stands, what becomes of the whole if it changes -/
structure Wait where
  t : Tm
  ab : Option (Nat × Nat)
  f : Tm → Tm
/-- what becomes of the whole if the part at a place changes, by n steps up -/
inductive Put (s : List Seen) : Nat → Option (Nat × Nat) → (Tm → Tm) → Prop
  | root : Put s 0 none id
  | up {n a p : Nat} {e : Seen} {f : Tm → Tm} : s[a]? = some e → p < e.as.length → Put s n e.ab f → Put s (n + 1) (some (a, p)) fun t => f (wound (lf e.h) (e.as.set p t))
theorem at_more {α : Type} {s : List α} {a : Nat} {x e : α} (h : s[a]? = some x) : (s ++ [e])[a]? = some x := by
  rw [List.getElem?_append_left]
  · exact h
  · rcases Nat.lt_or_ge a s.length with z | z
    · exact z
    · rw [List.getElem?_eq_none z] at h
      cases h
theorem Put.more {s : List Seen} (e : Seen) {n : Nat} {ab : Option (Nat × Nat)} {f : Tm → Tm} (h : Put s n ab f) : Put (s ++ [e]) n ab f := by
  induction h with
  | root => exact .root
  | up h1 h2 _ ih => exact .up (at_more h1) h2 ih
/-- the first step of what waits, the first item looked at first -/
def fs : List Wait → Option Tm
  | [] => none
  | w :: ws => match step w.t with
    | some u => some (w.f u)
    | none => fs ws
/-- the arguments that wait, those from the index k on: all of them as, of the part with the number n -/
def its (n : Nat) (g : Nat → Tm → Tm) : Nat → List Tm → List Wait
  | _, [] => []
  | k, a :: as => its n g (k + 1) as ++ if a.isAp = true then [⟨a, some (n, k), g k⟩] else []
/-- how the search stands: what was looked at, what waits (the next one first) -/
structure Srch (t : Tm) (s : List Seen) (w : List Wait) : Prop where
  put : ∀ x ∈ w, ∃ k, Put s k x.ab x.f
  room : s.length + sizes (w.map (·.t)) ≤ t.size
  lens : ∀ e ∈ s, e.as.length ≤ t.size
  none' : s = [] → w ≠ []
  how : (step t = fs w ∧ ∀ e, s.getLast? = some e → enough e.h e.as = false) ∨ (w = [] ∧ ∃ e k f, s.getLast? = some e ∧ enough e.h e.as = true ∧ Put s k e.ab f ∧ step t = some (f (used e.h e.as)))
theorem Srch.start (t : Tm) : Srch t [] [⟨t, none, id⟩] := by
  refine ⟨fun x hx => ⟨0, by rw [List.mem_singleton.mp hx]; exact .root⟩, by simp [sizes], (fun e h => nomatch h), (fun _ h => nomatch h), .inl ⟨?_, fun e h => nomatch h⟩⟩
  show step t = match step t with | some u => some (id u) | none => none
  cases step t <;> rfl
end Tm
end Ly

set_option maxHeartbeats 4000000
namespace Ly
open PySem L2 PySem.Spec PyProof.Rows
abbrev tmsD (ts : List Tm) : List Dat := ts.map Tm.D
def ab1 : Option (Nat × Nat) → Dat
  | none => .non
  | some (a, _) => .int (a : Int)
def ab2 : Option (Nat × Nat) → Dat
  | none => .non
  | some (_, p) => .int (p : Int)
def seenD (e : Tm.Seen) : Dat := .tup [.str (sg e.h), .lst (tmsD e.as), ab1 e.ab, ab2 e.ab]
def waitD (w : Tm.Wait) : Dat := .tup [w.t.D, ab1 w.ab, ab2 w.ab]
def optD : Option Tm → Dat
  | none => .non
  | some t => t.D
section
variable {W : Wd} {K : PySem.W.Frag} {Γ : List (Option Dat)} {ta tb tc te tl tv tn : TE} {tt tu : TT} {tA : TA} {P R : Dat → Prop} {d a b : Dat} {G1 G0 H0 G H G2 H2 : Hp} {O : List (Addr × List Dat)} {σ : L2.St} {D : Ends} {tz ts tw : TS}
end
theorem lt_get {α β : Type} {f : α → β} {xs : List α} {i : Nat} {y : β} (h : (xs.map f)[i]? = some y) : ∃ x, xs[i]? = some x ∧ y = f x := by
  rw [List.getElem?_map] at h
  cases e : xs[i]? with
  | none =>
    rw [e] at h
    cases h
  | some x =>
    rw [e] at h
    exact ⟨x, rfl, (Option.some.inj h).symm⟩
end Ly

set_option maxHeartbeats 4000000
namespace Ly
open PySem L2 PySem.Spec PyProof.Rows
section
variable {W : Wd} {K : PySem.W.Frag} {Γ : List (Option Dat)} {ta tb tc te tl tv tn : TE} {tt tu : TT} {tA : TA} {P R : Dat → Prop} {d a b : Dat} {G1 G0 H0 G H G2 H2 : Hp} {O : List (Addr × List Dat)} {σ : L2.St} {D : Ends} {tz ts tw : TS}
end
namespace Tm
/-! ## the step with the arguments from the first one on -/
def wind (t : Tm) (bs : List Tm) : Tm := bs.foldl ap t
/-! ## what a step does to size, depth, letters -/
/-- what a step of one term gives to a whole -/
structure StepG (t u : Tm) : Prop where
  size : u.size ≤ 2 * t.size
  deep : u.deep ≤ t.deep + 1
  lt : ∀ cs, t.Lt cs → u.Lt cs
end Tm
end Ly
namespace Ly
open PySem L2 PySem.Spec PyProof.Rows
end Ly

set_option maxHeartbeats 4000000
namespace Ly
open PySem L2 PySem.Spec PyProof.Rows
/-- the entries of a written dict: texts with ints -/
def Dkv (P : Params) : List DictEntry → List (Str × Int) → Prop
  | [], [] => True
  | e :: r, k :: ks => ((∃ t, e.key = .str k.1 t) ∧ e.hash = PyData.keyHash P k.1 ∧ ∃ t, e.val = .int k.2 t) ∧ Dkv P r ks
  | _, _ => False
theorem Dkv.len {P : Params} : ∀ {l : List DictEntry} {ks : List (Str × Int)}, Dkv P l ks → l.length = ks.length
  | [], [], _ => rfl
  | e :: r, k :: ks, h => by rw [List.length_cons, List.length_cons, Dkv.len h.2]
  | [], _ :: _, h => h.elim
  | _ :: _, [], h => h.elim
theorem Dkv.at' {P : Params} : ∀ {l : List DictEntry} {ks : List (Str × Int)}, Dkv P l ks → ∀ (i : Nat) (h : i < l.length) k, ks[i]? = some k → ∃ t, l[i].key = .str k.1 t
  | e :: r, k :: ks, h, 0, _, k', e' => by
    cases e'
    exact h.1.1
  | e :: r, k :: ks, h, i + 1, hi, k', e' => Dkv.at' h.2 i (by simpa using hi) k' (by simpa using e')
  | [], [], _, _, _, _, e => by simp at e
  | [], _ :: _, h, _, _, _, _ => h.elim
  | _ :: _, [], h, _, _, _, _ => h.elim
end Ly

set_option maxHeartbeats 4000000
/-! # own errors with a field, whose __init__ says super().__init__(f'..') -/
namespace PySem
namespace SupE
open PySem.W PySem.Calls PyProof.Rows PySem.HandSPX PySem.Spec
/-- the parts of the text: signs, and the field -/
def PartOk (f : Str) : Expr → Prop
  | .Constant (.str x) 0 _ => x.length ≤ 1000
  | .FormattedValue (.Name y _) (-1) none _ => y = f
  | _ => False
def iArgs (f : Str) (p1 p2 : Pos) : Arguments := { posonlyargs := [], args := [{ arg := "self", annotation := none, pos := p1 }, { arg := f, annotation := none, pos := p2 }], vararg := none, kwonlyargs := [], kw_defaults := [], kwarg := none, defaults := [] }
def iCall (vs : List Expr) (q1 q2 q3 q4 q5 : Pos) : Expr := .Call (.Attribute (.Call (.Name "super" q1) [] [] q2) "__init__" q3) [.JoinedStr vs q4] [] q5
def iBody (f : Str) (vs : List Expr) (q1 q2 q3 q4 q5 q6 r1 r2 r3 r4 : Pos) : List Stmt := [.Expr (iCall vs q1 q2 q3 q4 q5) q6, .Assign [.Attribute (.Name "self" r1) f r2] (.Name f r3) r4]
def iScope (f : Str) : Scope := { kind := .function, names := [("self", .local), (f, .local), ("__class__", .free), ("super", .globalImplicit)], isGenerator := false, isCoroutine := false, more := [] }
/-- the fields' names -/
def FName (f : Str) : Prop := f = "line" ∨ f = "limit"
/-! ### the call of a bound ValueError.__init__ -/
section
variable {prog : Program} {w : World} {A : Around} {E : Value → Shared → Prop} {h : Heap} {g : Array GenState} {d : Drawn} {t : Nat} {os : OsState}
variable {nm q : Str} {C N : Addr} {bs bm : List Value} {hdct : Bool} {sn : List Str} {sub : List Value} {ab : Bool} {col : Option Bool} {dd : Option Addr} {k0 k1 k2 k3 k5 : Option Value}
end
/-- the facts of such an error: its class at C, its __init__ at fI -/
structure SupTxt (P : Program) (K : Frag) (mg : Str → Option Value) (X f : Str) (C fI : Addr) : Prop where
  gC : mg X = some (.ref C)
  gS : mg "super" = none
  cls : ∃ nm q N bs bm sn sub ab col dd k0 k1 k2 k3 k5, K.lookup C = some (excClassObj nm q C N bs bm true sn sub ab col dd k0 k1 k2 k3 k5 "ValueError.__new__") ∧ refsVE bm = true
  sa : findIn K (.ref C) "__setattr__" = some (some (.builtin "object.__setattr__"))
  ga : findIn K (.ref C) "__getattribute__" = some (some (.builtin "BaseException.__getattribute__"))
  gg : findIn K (.ref C) "__getattr__" = some none
  noN : findIn K (.ref C) f = some none
  iC : findIn K (.ref C) "__init__" = some (some (.ref fI))
  tC : typeIn K (.ref fI) = some (.type "function")
  kC : keepIn K (.ref C) = true
  exC : subIn K (.ref C) (.type "BaseException") = some true
  tyC : typeIn K (.ref C) = some (.type "type")
  hdC : hasDictIn K C = true
  te : exmOne K (.ref C) (.ref C) = some true
  sup : ks_superIn K C C "__init__" = some (some (.builtin "ValueError.__init__"))
  opq : nsIn K cStatics "thirdparty.any" = some none
  veB : subIn K (.ref C) (.type "ValueError") = some true
  mro : mroIn K C (.ref C) = some true
  nm : FName f
  top : (P.main.scope.names.lookup ("super" : Str)).isSome = false
  fn : ∃ (oc : Value) (od : Option Addr) (q : Str) (kV doc pm : Value) (an : Option Addr) (cda cc : Addr) (ct : Value) (osl : Array (Option Value)) (p1 p2 q1 q2 q3 q4 q5 q6 r1 r2 r3 r4 : Pos) (v1 v2 : Expr) (vs : List Expr),
    K.lookup fI = some ⟨oc, od, .func (fnX "__init__" q (iArgs f p1 p2) (iBody f (v1 :: v2 :: vs) q1 q2 q3 q4 q5 q6 r1 r2 r3 r4) (iScope f) [("__class__", cc)] .none kV doc pm an (.ref cda) ct), osl⟩ ∧ codeIn K (.ref cda) q = true ∧
    (∃ (ccl : Value) (cdd : Option Addr) (ws : Array Value) (ccs : Array (Option Value)) (file : Str) (tf : Tok), K.lookup cda = some ⟨ccl, cdd, .fields ws, ccs⟩ ∧ ws[2]? = some (.str file tf) ∧ ((P.main.file : Str) == file) = true) ∧
    (∃ (cl : Value) (cld : Option Addr) (csl : Array (Option Value)), K.lookup cc = some ⟨cl, cld, .cell (some (.ref C)), csl⟩) ∧
    (∀ v ∈ v1 :: v2 :: vs, PartOk f v) ∧ vs.length ≤ 10 ∧ (q3.endLine == q5.line) = true
/-- what such an __init__ leaves of a fresh exception at x -/
structure InitEnd (f : Str) (h h' : Heap) (x C dx t1 : Addr) (v : Value) : Prop where
  keep : ∀ b o, b ≠ x → h.get? b = some o → h'.get? b = some o
  obj : h'.get? x = some { cls := .ref C, dict := some dx, data := .fields #[.ref t1, .none, .none, .none, .bool false, .none] }
  dbig : h.objs.size ≤ dx
  dne : dx ≠ x
  ns : h'.Ns1 dx (fun y => if y = f then some v else none)
section
variable {prog : Program} {w : World} {A : Around} {E : Value → Shared → Prop} {R : Result → Shared → Prop} {s : Shared} {K : Frag} {mg : Str → Option Value} {base : Heap} {X f : Str} {C fI : Addr}
end
end SupE
end PySem

set_option maxHeartbeats 4000000
namespace PySem
namespace SupE
open PySem.W PySem.Calls PyProof.Rows PySem.HandSPX PySem.Spec
/-- a made error -/
structure Made1 (f : Str) (h h' : Heap) (e C d : Addr) (v : Value) : Prop where
  keep : ∀ b o, h.get? b = some o → h'.get? b = some o
  new : h.objs.size ≤ e
  obj : ∃ oe vs, h'.get? e = some oe ∧ oe.cls = .ref C ∧ oe.dict = some d ∧ oe.data = .fields vs ∧ vs[1]? = some .none ∧ vs[2]? = some .none
  dbig : h.objs.size ≤ d
  dne : d ≠ e
  ns : h'.Ns1 d (fun y => if y = f then some v else none)
section
variable {prog : Program} {w : World} {A : Around} {E : Value → Shared → Prop} {R : Result → Shared → Prop} {s : Shared} {K : Frag} {mg : Str → Option Value} {base : Heap} {X f : Str} {C fI : Addr}
end
end SupE
end PySem
namespace Ly
open PySem L2 PySem.Spec PyProof.Rows
section
variable {X : Cx} {x f : Str} {C fI : Addr}
/-- X(e), e an int -/
def tMkSup (f : Str) (C : Addr) (ta : TA) : L2.St → Hp → XK → Prop := fun σ H Q => ta σ H fun vs H1 => ∃ i : Int, vs = [.int i] ∧ i.natAbs.log2 < 1920 ∧ ∀ d, H1 d = none → Q (.ref C) (some d) (upd H1 d (.xd [(f, .int i)]))
/-- raise X(e) -/
def tRaiseSup (f : Str) (C : Addr) (W : WX) (ta : TA) : TS := fun _ σ H => tMkSup f C ta σ H fun cls d H' => W cls d σ H'
end
/-- as the hand layer's rule for defs that may raise, with errors whose context is None -/
theorem okN {P : Program} {w : World} {K : PySem.W.Frag} {mg : Str → Option Value} {base : Heap} {x qual : Str} {st : Stmt} {f : Addr} {fd : FuncData} {N ps : List Str} {k : Nat} {sp : Sp} (F : Fun K x qual st f fd) (S : FnScope N ps (defScope st)) (len : ∀ vs H Q E, sp vs H Q E → vs.length = ps.length)
    (hbody : ∀ (cdv : Value) (A : Around) (outer : List PySem.Env) (s : Shared) (H : Hp) (vs : List V) (Q : VK) (E : XK), Room k (A.deeper (envOfC qual (defScope st) s.heap.objs.size f cdv)) → sp vs H Q E →
      ∃ t, PSs (cxOf (L2N.CX P w) P w K mg base N qual (defScope st) f cdv A outer s H E) (defBody st) t ∧ t { nx := fun _ H' => Q .non H', rt := Q } (L2.start N vs) H) : FnOk P w K mg base (L2N.CX P w) (k + 1) f fd ps sp := by
  obtain ⟨oc, od, kV, doc, pm, an, cdv, ct, osl, rfl, lk, hcd⟩ := F.ex
  exact fn_of lk hcd S len fun A outer s H vs Q E hr h => hbody cdv A outer s H vs Q E hr h
theorem passLN {X : Cx} : Passes (L2N.CX X.prog X.w) X E0 := fun _ _ _ _ _ _ _ h => by
  obtain ⟨_, _, _, _, _, _, _, _, _, _, _, _, z⟩ := h
  exact z.elim
theorem takes0N {X : Cx} : L2N.Takes X (fun _ _ _ _ => False) := fun _ _ x => by
  obtain ⟨_, _, _, _, _, _, _, _, _, _, _, _, _, _, _, _, z⟩ := x
  exact z.elim
/-! ## defs that may raise -/
structure CalX (P : Program) (w : World) (K : PySem.W.Frag) (mg : Str → Option Value) (base : Heap) (k : Nat) (x : Str) (sp : Sp) : Prop where
  ex : ∃ (f : Addr) (fd : FuncData) (ps : List Str), FnOk P w K mg base (L2N.CX P w) k f fd ps sp ∧ mg x = some (.ref f) ∧ PySem.W.keepIn K (.ref f) = true ∧ Binds K fd ps []
structure MetX (P : Program) (w : World) (K : PySem.W.Frag) (mg : Str → Option Value) (base : Heap) (k : Nat) (C : Addr) (m : Str) (sp : Sp) : Prop where
  ex : ∃ (f : Addr) (fd : FuncData) (ps : List Str), Cls K C ∧ Meth K C m f ∧ FnOk P w K mg base (L2N.CX P w) k f fd ps sp ∧ Binds K fd ps []
section
variable {P : Program} {w : World} {K : PySem.W.Frag} {mg : Str → Option Value} {base : Heap}
end
end Ly

set_option maxHeartbeats 4000000
namespace Ly
open PySem L2 PySem.Spec PyProof.Rows
section
variable {P : Program} {w : World} {K : PySem.W.Frag} {mg : Str → Option Value} {base : Heap}
theorem calx_of {x : Str} {st : Stmt} {N ps : List Str} {k : Nat} {sp : Sp} (D : Df K mg x st)
    (hb : ∀ (kV doc pm : Value) (an : Option Addr) (cdv ct : Value) (us : List Value), us.length = ps.length → bindArgs (PySem.W.fnOf x x (defArgs st) (defBody st) (defScope st) .none kV doc pm an cdv ct) ⟨us, []⟩ = pure (ps.zip us))
    (S : FnScope N ps (defScope st)) (len : ∀ vs H Q E, sp vs H Q E → vs.length = ps.length)
    (hbody : ∀ (f : Addr) (cdv : Value) (A : Around) (outer : List PySem.Env) (s : Shared) (H : Hp) (vs : List V) (Q : VK) (E : XK), Room k (A.deeper (envOfC x (defScope st) s.heap.objs.size f cdv)) → sp vs H Q E →
      ∃ t, PSs (cxOf (L2N.CX P w) P w K mg base N x (defScope st) f cdv A outer s H E) (defBody st) t ∧ t { nx := fun _ H' => Q .non H', rt := Q } (L2.start N vs) H) : CalX P w K mg base (k + 1) x sp := by
  obtain ⟨f, fd, F, hm⟩ := D
  exact ⟨⟨f, fd, ps, okN F S len (hbody f), hm, F.kp, F.binds hb⟩⟩
end
section
variable {X : Cx} {k j : Nat} {C : Addr} {x m : Str} {sp : Sp} {p apos pos : Pos} {e o : Expr} {es : List Expr} {t : TA} {ta : TE} {W : WX} {E : XK}
/-- a call that does not raise here; one whose error passes on; one in a try -/
theorem pe_cX0 (c : CalX X.prog X.w X.K X.mg X.base k x sp) (hr : Room j X.A) (hk : k ≤ j) (hg : Gl X x) (ha : PA X (e :: es) t)
    (hdb : (x == ("__debug__" : Str)) = false := by decide) (he : starEach (e :: es) X.env = (false, eval e X.env) :: starEach es X.env := by rfl) (hpl : (backTo pos (starEach es X.env)).any (·.1) = false := by rfl) :
    PE X (.Call (.Name x p) (e :: es) [] pos) (tCall sp [] E0 t) := by
  obtain ⟨f, fd, ps, F, hm, kp, b⟩ := c.ex
  exact pe_call F (hr.mono hk) hg hm kp b .nil passLN ha hdb he hpl
theorem pe_cXP (c : CalX X.prog X.w X.K X.mg X.base k x sp) (hr : Room j X.A) (hk : k ≤ j) (tk : L2N.Takes X fun cls d _ H => E cls d H) (hg : Gl X x) (ha : PA X (e :: es) t)
    (hdb : (x == ("__debug__" : Str)) = false := by decide) (he : starEach (e :: es) X.env = (false, eval e X.env) :: starEach es X.env := by rfl) (hpl : (backTo pos (starEach es X.env)).any (·.1) = false := by rfl) :
    PE X (.Call (.Name x p) (e :: es) [] pos) (tCall sp [] E t) := by
  obtain ⟨f, fd, ps, F, hm, kp, b⟩ := c.ex
  exact pe_call F (hr.mono hk) hg hm kp b .nil (L2N.passes_call tk fun _ _ _ _ h => h) ha hdb he hpl
theorem pe_cXS {E : L2.St → XK} (c : CalX X.prog X.w X.K X.mg X.base k x sp) (hr : Room j X.A) (hk : k ≤ j) (hx : ∀ σ, PassesAt (L2N.CX X.prog X.w) X σ (E σ)) (hg : Gl X x) (ha : PA X (e :: es) t)
    (hdb : (x == ("__debug__" : Str)) = false := by decide) (he : starEach (e :: es) X.env = (false, eval e X.env) :: starEach es X.env := by rfl) (hpl : (backTo pos (starEach es X.env)).any (·.1) = false := by rfl) :
    PE X (.Call (.Name x p) (e :: es) [] pos) (tCallS sp E t) := by
  obtain ⟨f, fd, ps, F, hm, kp, b⟩ := c.ex
  exact pe_callS F (hr.mono hk) hg hm kp b hx ha hdb he hpl
/-- a method's -/
def tMethSx (C : Addr) (m : Str) (sp : Sp) (E : L2.St → XK) (ta : TE) (t : TA) : TE := fun σ H Q => ta σ H fun x H1 => ∃ a dx fs, x = .ref a ∧ H1 a = some (.ins C dx fs) ∧ fs.lookup m = none ∧
  t σ H1 fun vs H2 => sp (x :: vs) H2 Q (E σ)
end
/-! ## promises with errors -/
inductive Out where
  | val (P : Dat → Prop)
  | err (C : Addr) (fs : Option (List (Str × V)))
abbrev XSig := List Dat → Out → Prop
/-- what is wanted of an outcome -/
def OutG (W : Wd) (K : PySem.W.Frag) (G H : Hp) (Q : VK) (E : XK) : Out → Prop
  | .val P => Go W K G H P Q
  | .err C fs => ∀ d G2 H2, Stp W G H G2 H2 → (fs = none → d = none) → (∀ f, fs = some f → ∃ a, d = some a ∧ H2 a = some (.xd f)) → E (.ref C) d H2
def spX (W : Wd) (K : PySem.W.Frag) (A : XSig) : Sp := fun vs H Q E => ∃ G ds o, Ok W G H ∧ Reps K G vs ds ∧ A ds o ∧ OutG W K G H Q E o
theorem spX_len {W : Wd} {K : PySem.W.Frag} {A : XSig} {n : Nat} (h : ∀ ds o, A ds o → ds.length = n) : ∀ vs H Q E, spX W K A vs H Q E → vs.length = n := fun vs H Q E ⟨G, ds, o, _, r, a, _⟩ => r.length.trans (h ds o a)
section
variable {W : Wd} {K : PySem.W.Frag} {Γ : List (Option Dat)} {ta tb tc te tl tv tn : TE} {tt tu : TT} {tA : TA} {P R : Dat → Prop} {d a b : Dat} {G1 G0 H0 G H G2 H2 : Hp} {O : List (Addr × List Dat)} {σ : L2.St} {D : Ends} {tz ts tw : TS} {Q : VK} {E : XK}
theorem OutG.step {o : Out} (s : Stp W G H G2 H2) (h : OutG W K G H Q E o) : OutG W K G2 H2 Q E o := by
  cases o with
  | val P => exact Go.step h s
  | err C fs => exact fun d G3 H3 t h1 h2 => h d G3 H3 (s.trans t) h1 h2
theorem OutG.of0 {o : Out} (k : Ok W G H) (h : OutG W K G H Q E o) : OutG Wd0 K G H Q E o := by
  cases o with
  | val P => exact fun v d G3 H3 t pd rd => h v d G3 H3 (Stp.of0 k t) pd rd
  | err C fs => exact fun d G3 H3 t h1 h2 => h d G3 H3 (Stp.of0 k t) h1 h2
/-- a call that gives a value -/
theorem v_callX {A : XSig} {R : List Dat → Prop} (h : EvA W K tA Γ R) (hs : ∀ ds, R ds → ∃ P', A ds (.val P') ∧ ∀ d, P' d → P d) : Ev W K (tCall (spX Wd0 K A) [] E tA) Γ P := fun σ G H n k Q q =>
  h σ G H n k _ fun vs ds G2 H2 s p r => by
    rw [List.append_nil]
    obtain ⟨P', h1, h2⟩ := hs ds p
    exact ⟨G2, ds, .val P', (s.ok k).pure, r, h1, fun v d G3 H3 t pd rd => q v d G3 H3 (s.trans (Stp.of0 (s.ok k) t)) (h2 d pd) rd⟩
theorem v_callXx {A : XSig} {ds : List Dat} (h : EvAX W K tA Γ ds) (hs : A ds (.val P)) : Ev W K (tCall (spX Wd0 K A) [] E tA) Γ P := v_callX h fun ds' e => ⟨P, by rw [e]; exact hs, fun _ p => p⟩
/-- calls whose outcome is told, from a state -/
theorem x_outX {A : XSig} {ds : List Dat} {o : Out} (h : EvAX W K tA Γ ds) (ha : A ds o) (S : S4 W K G1 G0 H0 Γ O σ G H)
    (kv : ∀ P, o = .val P → ∀ v d G2 H2, S4 W K G1 G0 H0 Γ O σ G2 H2 → P d → Rep K G2 v d → Q v H2)
    (ke : ∀ C fs, o = .err C fs → ∀ d G2 H2, S4 W K G1 G0 H0 Γ O σ G2 H2 → (fs = none → d = none) → (∀ f, fs = some f → ∃ a, d = some a ∧ H2 a = some (.xd f)) → E (.ref C) d H2) :
    tA σ H fun vs H1 => spX Wd0 K A vs H1 Q E := h σ G H S.env S.ok _ fun vs ds' G2 H2 s e r => by
  subst e
  have S2 := S.step s
  refine ⟨G2, ds', o, S2.ok.pure, r, ha, ?_⟩
  cases o with
  | val P => exact fun v d G3 H3 t pd rd => kv P rfl v d G3 H3 (S2.step (Stp.of0 S2.ok t)) pd rd
  | err C fs => exact fun d G3 H3 t h1 h2 => ke C fs rfl d G3 H3 (S2.step (Stp.of0 S2.ok t)) h1 h2
theorem x_callS {A : XSig} {EE : L2.St → XK} {ds : List Dat} {o : Out} (h : EvAX W K tA Γ ds) (ha : A ds o) (S : S4 W K G1 G0 H0 Γ O σ G H)
    (kv : ∀ P, o = .val P → ∀ v d G2 H2, S4 W K G1 G0 H0 Γ O σ G2 H2 → P d → Rep K G2 v d → Q v H2)
    (ke : ∀ C fs, o = .err C fs → ∀ d G2 H2, S4 W K G1 G0 H0 Γ O σ G2 H2 → (fs = none → d = none) → (∀ f, fs = some f → ∃ a, d = some a ∧ H2 a = some (.xd f)) → EE σ (.ref C) d H2) :
    tCallS (spX Wd0 K A) EE tA σ H Q := x_outX (E := EE σ) h ha S kv ke
theorem x_callP {A : XSig} {ds : List Dat} {o : Out} (h : EvAX W K tA Γ ds) (ha : A ds o) (S : S4 W K G1 G0 H0 Γ O σ G H)
    (kv : ∀ P, o = .val P → ∀ v d G2 H2, S4 W K G1 G0 H0 Γ O σ G2 H2 → P d → Rep K G2 v d → Q v H2)
    (ke : ∀ C fs, o = .err C fs → ∀ d G2 H2, S4 W K G1 G0 H0 Γ O σ G2 H2 → (fs = none → d = none) → (∀ f, fs = some f → ∃ a, d = some a ∧ H2 a = some (.xd f)) → E (.ref C) d H2) :
    tCall (spX Wd0 K A) [] E tA σ H Q := h σ G H S.env S.ok _ fun vs ds' G2 H2 s e r => by
  subst e
  rw [List.append_nil]
  have S2 := S.step s
  refine ⟨G2, ds', o, S2.ok.pure, r, ha, ?_⟩
  cases o with
  | val P => exact fun v d G3 H3 t pd rd => kv P rfl v d G3 H3 (S2.step (Stp.of0 S2.ok t)) pd rd
  | err C fs => exact fun d G3 H3 t h1 h2 => ke C fs rfl d G3 H3 (S2.step (Stp.of0 S2.ok t)) h1 h2
end
end Ly

set_option maxHeartbeats 4000000
/-! # isinstance of a caught own error that has a dict -/
namespace PySem
namespace SupE
open PySem.W PySem.Spec PySem.Calls PyProof.Rows
section
variable {prog : Program} {w : World} {A : Around} {E : Value → Shared → Prop} {s : Shared} {K : Frag} {x D : Addr} {ox : Obj} {od : Option Obj}
end
end SupE
end PySem
namespace Ly
open PySem L2 PySem.Spec PyProof.Rows
/-- isinstance(e, c) of a caught error with a dict -/
def rIsE3 (K : PySem.W.Frag) (D a : Addr) (cls : Value) (d : Option Addr) : List V → Hp → VK → Prop := fun xs H Q => ∃ dd fs, cls = .ref D ∧ d = some dd ∧ H dd = some (.xd fs) ∧ rIsE K D a xs H Q
section
variable {W : Wd} {K : PySem.W.Frag} {Γ : List (Option Dat)} {D a c dd : Addr} {fs : List (Str × V)} {b : Bool} {σ : L2.St} {H : Hp} {Q : VK} {i : Nat}
end
end Ly

set_option maxHeartbeats 4000000
namespace Ly
open PySem L2 PySem.Spec PyProof.Rows
section
variable {X : Cx}
/-- a text, once or not at all -/
def rMulS : V → V → Hp → VK → Prop := fun x y H Q => ∃ (z : Str) (k : Int), x = .str z ∧ y = .int k ∧ (k = 0 ∨ k = 1) ∧ Q (.str (if k = 0 then Str.empty else z)) H
end
section
variable {W : Wd} {K : PySem.W.Frag} {Γ : List (Option Dat)} {ta tb tc te tl tv tn : TE} {tt tu : TT} {tA : TA} {P R : Dat → Prop} {d a b : Dat} {G1 G0 H0 G H G2 H2 : Hp} {O : List (Addr × List Dat)} {σ : L2.St} {D : Ends} {tz ts tw : TS} {Q : VK} {E : XK}
/-- parts of a text -/
def cutN (cs : List Nat) (lo hi : Option Int) : List Nat := (cs.drop (HT.sIx cs.length 0 lo)).take (HT.sIx cs.length cs.length hi - HT.sIx cs.length 0 lo)
end
end Ly

set_option maxHeartbeats 4000000
namespace Ly
open PySem L2
namespace Tm
/-! # texts of terms: ( 40, ) 41, space 32 -/
def show' : Tm → List Nat
  | lf c => [c]
  | ap l r => show' l ++ (if r.isAp = true then 40 :: show' r ++ [41] else show' r)
/-- an argument as it is written -/
def asg (r : Tm) : List Nat := if r.isAp = true then 40 :: show' r ++ [41] else show' r
/-- what is left to write, the last one first -/
def left (ws : List Tm) : List Nat := ws.reverse.flatMap show'
/-! ## reading -/
def isL (c : Nat) : Bool := decide (c ∈ [83, 75, 73]) || (decide (97 ≤ c) && decide (c ≤ 122))
def appO : Option Tm → Tm → Tm
  | none, r => r
  | some l, r => ap l r
abbrev Rd := Option Tm × List (Option Tm)
/-- one sign: the term so far, and the ones ahead of the brackets, the last first -/
def rd (c : Nat) (s : Rd) : Option Rd :=
  if c = 40 then some (none, s.1 :: s.2)
  else if c = 41 then (match s.2, s.1 with
    | b :: bs, some t => some (some (appO b t), bs)
    | _, _ => none)
  else if isL c = true then some (some (appO s.1 (lf c)), s.2)
  else if c = 32 then some s else none
def run : List Nat → Rd → Option Rd
  | [], s => some s
  | c :: cs, s => (rd c s).bind (run cs)
def fin : Rd → Option Tm
  | (some t, []) => some t
  | _ => none
def read (cs : List Nat) : Option Tm := (run cs (none, [])).bind fin
theorem run_app : ∀ (cs ds : List Nat) (s : Rd), run (cs ++ ds) s = (run cs s).bind (run ds)
  | [], ds, s => rfl
  | c :: cs, ds, s => by
    show (rd c s).bind (run (cs ++ ds)) = ((rd c s).bind (run cs)).bind (run ds)
    cases rd c s with
    | none => rfl
    | some s2 => exact run_app cs ds s2
/-- a text that reads as the term, from nowhere; behind a term -/
def Free (t : Tm) (cs : List Nat) : Prop := ∀ st, run cs (none, st) = some (some t, st)
def Arg (t : Tm) (cs : List Nat) : Prop := ∀ l st, run cs (l, st) = some (some (appO l t), st)
theorem Arg.free {t : Tm} {cs : List Nat} (h : Arg t cs) : Free t cs := fun st => h none st
theorem Free.ap {l r : Tm} {cs ds : List Nat} (h1 : Free l cs) (h2 : Arg r ds) : Free (ap l r) (cs ++ ds) := fun st => by
  rw [run_app, h1 st, Option.bind_some]
  exact h2 (some l) st
theorem Free.sp {t : Tm} {cs : List Nat} (h : Free t cs) : Free t (32 :: cs) := fun st => h st
theorem Arg.sp {t : Tm} {cs : List Nat} (h : Arg t cs) : Arg t (32 :: cs) := fun l st => h l st
theorem Free.read {t : Tm} {cs : List Nat} (h : Free t cs) : read cs = some t := by
  unfold Tm.read
  rw [h []]
  rfl
/-- the terms that are held -/
def szO : Option Tm → Nat
  | none => 0
  | some t => t.size
def held (s : Rd) : Nat := szO s.1 + (s.2.map szO).sum
def LtO (p : List Nat) (s : Rd) : Prop := (∀ t, s.1 = some t → t.Lt p) ∧ ∀ o ∈ s.2, ∀ t, o = some t → t.Lt p
/-- the letters of a text -/
def lets (cs : List Nat) : Nat := (cs.filter isL).length
end Tm
end Ly

set_option maxHeartbeats 4000000
namespace Ly
open PySem L2 PySem.Spec PyProof.Rows
section
variable {W : Wd} {K : PySem.W.Frag} {Γ : List (Option Dat)} {ta tb tc te tl tv tn : TE} {tt tu : TT} {tA : TA} {P R : Dat → Prop} {d a b : Dat} {G1 G0 H0 G H G2 H2 : Hp} {O : List (Addr × List Dat)} {σ : L2.St} {D : Ends} {tz ts tw : TS} {Q : VK} {E : XK}
theorem v_neS {i j : Str} (ha : EvX W K ta Γ (.str i)) (hb : EvX W K tb Γ (.str j)) : EvX W K (tOp rNe ta tb) Γ (.bl (!decide (i = j))) := by
  have h := v_opx ha hb (rv_ne (W := W) (K := K) (a := .str i) (b := .str j) rfl rfl rfl)
  have e : decide (sd (.str i) = sd (.str j)) = decide (i = j) := by
    show decide (V.str i = V.str j) = decide (i = j)
    exact decide_eq_decide.mpr ⟨V.str.inj, fun z => by rw [z]⟩
  rw [e] at h
  exact h
end
end Ly

set_option maxHeartbeats 4000000
/-! # defs that are called within an except suite -/
namespace Ly
open PySem L2 PySem.Spec PyProof.Rows
structure CalH (P : Program) (w : World) (K : PySem.W.Frag) (mg : Str → Option Value) (base : Heap) (k : Nat) (x : Str) (sp : Sp) : Prop where
  ex : ∃ (f : Addr) (fd : FuncData) (ps : List Str), L2H.FnH P w K mg base CX0 k f fd ps sp ∧ mg x = some (.ref f) ∧ PySem.W.keepIn K (.ref f) = true ∧ Binds K fd ps []
section
variable {P : Program} {w : World} {K : PySem.W.Frag} {mg : Str → Option Value} {base : Heap}
end
section
variable {X : Cx} {k j : Nat} {x : Str} {sp : Sp} {p pos : Pos} {e : Expr} {es : List Expr} {t : TA}
end
end Ly

set_option maxHeartbeats 4000000
namespace Ly
open PySem L2 PySem.Spec PyProof.Rows
section
variable {X : Cx}
/-- xs.count(y), of data -/
def rCntD (K : PySem.W.Frag) : V → List V → Hp → VK → Prop := fun x xs H Q => ∃ (p : Addr) (ys : List V) (y : V) (ds : List PyData) (d : PyData), x = .ref p ∧ xs = [y] ∧ SqL K H p ys ∧ DpAll K H ys ds ∧ Dp K H y d ∧ PyData.plainAll ds = true ∧ d.plain = true ∧ d.depth ≤ 64 ∧ Q (.int ((ds.countP fun e => PyData.eqv e d : Nat) : Int)) H
end
theorem toPys_map : ∀ ds : List Dat, toPys ds = ds.map toPy
  | [] => rfl
  | d :: ds => by
    rw [toPys, toPys_map ds, List.map_cons]
section
variable {W : Wd} {K : PySem.W.Frag} {Γ : List (Option Dat)} {ta tb : TE} {d : Dat}
end
end Ly

set_option maxHeartbeats 4000000
namespace Ly
open PySem L2
namespace Tm
/-! # all parts of a term, abstraction, putting -/
/-- each part behind its own parts -/
def post : Tm → List Tm
  | lf c => [lf c]
  | ap l r => l.post ++ r.post ++ [ap l r]
/-- the part that a stack gives first -/
def pre : Tm → List Tm
  | lf c => [lf c]
  | ap l r => ap l r :: (r.pre ++ l.pre)
/-! ## what a stack makes of the parts -/
section
variable {α : Type}
/-- f for letters, g for pairs: the stack's top is the list's end -/
def mk (f : Nat → α) (g : Tm → Tm → α → α → α) : Tm → α
  | lf c => f c
  | ap l r => g l r (mk f g l) (mk f g r)
def stk1 (f : Nat → α) (g : Tm → Tm → α → α → α) (s : List α) : Tm → List α
  | lf c => s ++ [f c]
  | ap l r => match s.reverse with
    | y :: x :: q => q.reverse ++ [g l r x y]
    | _ => s
def stk (f : Nat → α) (g : Tm → Tm → α → α → α) (ts : List Tm) : List α := ts.foldl (stk1 f g) []
end
/-- K p, where nothing was made -/
def orK : Option Tm → Tm → Tm
  | none, p => ap (lf 75) p
  | some m, _ => m
/-- none: the letter doesn't stand in it -/
def absF (x c : Nat) : Option Tm := if c = x then some (lf 73) else none
def absG (l r : Tm) (a b : Option Tm) : Option Tm := if a.isNone = true ∧ b.isNone = true then none else some (ap (ap (lf 83) (orK a l)) (orK b r))
def absO (x : Nat) : Tm → Option Tm := mk (absF x) absG
def abs (x : Nat) (t : Tm) : Tm := orK (absO x t) t
def sbtF (x : Nat) (u : Tm) (c : Nat) : Tm := if c = x then u else lf c
def sbtG (_ _ a b : Tm) : Tm := ap a b
def sbt (x : Nat) (u : Tm) : Tm → Tm := mk (sbtF x u) sbtG
def cnt (x : Nat) : Tm → Nat
  | lf c => if c = x then 1 else 0
  | ap l r => l.cnt x + r.cnt x
/-- parts that wait: what they give, the last one first -/
def pres (ws : List Tm) : List Tm := ws.reverse.flatMap pre
end Tm
end Ly

set_option maxHeartbeats 4000000
namespace Ly
open PySem L2 PySem.Spec PyProof.Rows
theorem units80 {k : Nat} {A : Around} (r : Room k A) : A.units + 80 < cLine := by have := r.un; omega
section
variable {W : Wd} {K : PySem.W.Frag} {Γ : List (Option Dat)} {ta tb tc te tl tv tn : TE} {tt tu : TT} {tA : TA} {P R : Dat → Prop} {d a b e : Dat} {G1 G0 H0 G H G2 H2 : Hp} {O : List (Addr × List Dat)} {σ : L2.St} {D : Ends} {tz ts tw : TS} {Q : VK} {E : XK}
end
end Ly

set_option maxHeartbeats 4000000
namespace Ly
open PySem L2 PySem.Spec PyProof.Rows
section
variable {W : Wd} {K : PySem.W.Frag} {Γ : List (Option Dat)} {ta tb tc te tl tv tn : TE} {tt tu : TT} {tA : TA} {P : Dat → Prop} {d a b e : Dat} {G1 G0 H0 G H G2 H2 : Hp} {O : List (Addr × List Dat)} {σ : L2.St} {D : Ends} {tz ts tw : TS} {Q : VK} {E : XK}
/-- what is to be shown for an outcome -/
structure OutK (W : Wd) (K : PySem.W.Frag) (G1 G0 H0 : Hp) (Γ : List (Option Dat)) (O : List (Addr × List Dat)) (σ : L2.St) (Q : VK) (E : XK) (o : Out) : Prop where
  kv : ∀ P, o = .val P → ∀ v d G2 H2, S4 W K G1 G0 H0 Γ O σ G2 H2 → P d → Rep K G2 v d → Q v H2
  ke : ∀ C fs, o = .err C fs → ∀ d G2 H2, S4 W K G1 G0 H0 Γ O σ G2 H2 → (fs = none → d = none) → (∀ f, fs = some f → ∃ a, d = some a ∧ H2 a = some (.xd f)) → E (.ref C) d H2
theorem q_tryG2 {ft : TS} (h : ft { D with nx := tz D } σ H) : tSeq ft tz D σ H := h
end
namespace Tm
end Tm
end Ly

set_option maxHeartbeats 4000000
/-! # dict comprehensions with keys of any kind: the storing is a word of its own -/
namespace Ly
open PySem L2 PySem.Spec PyProof.Rows
abbrev Acc := V → V → Addr → Hp → (Hp → Prop) → Prop
/-- the storing: from any context with room -/
def AccD (acc : Acc) : Prop := ∀ (X : Cx) (pins : List (Addr × Obj)) (τ : L2.St) (B : Hp) (t : Shared) (F : Value → Shared → Prop) (D : Addr) (y z : V) (u r : Value) (N : Hp → Prop) (Q : Unit → Shared → Prop),
  X.A.units + 1 < cLine → Inv X pins τ B t → RelV y u → RelV z r → acc y z D B N → (∀ B2 t2, Inv X pins τ B2 t2 → N B2 → Q () t2) → wpAny (model X.prog X.w) X.A (dictSet D u r) Q F t
/-- keys that are tuples -/
def accT : Acc := fun y z D B N => ∃ kvs k b, y = .ref b ∧ B b = some (.tup (k.map kV)) ∧ B D = some (.dT kvs) ∧ kvs.length < sizeLine ∧ N (upd B D (.dT (putK kvs k z)))
theorem accT_ok : AccD accT := by
  intro X pins τ B t F D y z u r N Q hu I ry rz ⟨kvs, k, b, ey, eb, eD, hl, hN⟩ q
  subst ey
  cases (show u = Value.ref b from ry)
  obtain ⟨hz, hd, xs, rel, dd⟩ := dt_of I.hok eD
  have hx : xs.length ≤ sizeLine := by rw [← Paired.length rel]; exact hz
  have hp : (putK kvs k z).length ≤ sizeLine := by have := length_putK kvs k z; omega
  refine wpAny_dictSet_heap (hsz := hx) (Nat.lt_of_succ_lt hu) (key_of I.hok eb) dd fun h2 dd2 sb => q _ _ ?_ hN
  obtain ⟨o, es, ep, h3, h4, h5, h6, _, h7⟩ := dd2
  refine d_write I (by rw [eD]; exact True.intro) sb ⟨o, h3⟩ ⟨hp, hd, _, (rel.put k eb rz).keeps fun c ys ec => ?_, o, es, ep, h3, h4, h5, h6, h7⟩
  rw [upd_ne (ne_of ec eD fun w => nomatch w)]
  exact ec
def tDcG (O0 : HO) (acc : Acc) (wi : TI) (g : TG) (tt : TT) (tk tv : TE) (vs : List Nat) : TE := fun σ H Q => wi σ H fun it H1 => ∀ D, H1 D = none → ∃ J : Nat → Nat → Hp → Prop, (∃ m, J 0 m (upd H1 D O0)) ∧ ∀ i m B, J i m B →
  (it.stop i B ∧ Q (.ref D) B) ∨ (it.go i B ∧ ∃ N : Hp → Prop, (∀ B2, N B2 → ∃ k, k < m ∧ J (i + 1) k B2) ∧ ∀ x B2, it.yld i B x B2 → g x (wipe σ vs) B2 fun τ B3 => wipe τ vs = wipe σ vs ∧ tt τ B3 fun c B4 =>
    if c = true then tk τ B4 fun y B5 => tv τ B5 fun z B6 => acc y z D B6 N else N B4)
section
variable {X : Cx} {acc : Acc} {O0 : HO}
theorem dcg_core {pins : List (Addr × Obj)} {s : Shared} {σ : L2.St} {H : Hp} {Q : VK} {kx vx tg src : Expr} {tests : List Expr} {scope : Scope} {own : List (Str × Nat)} {pos pos2 : Pos} {wi : TI} {g : TG} {tt : TT} {tk tv : TE} {use : Option (Value → Sem Unit)} {Qf : Value → Shared → Prop}
    (hacc : AccD acc) (hnew : ∀ (B : Hp) (h : Heap), sysModules < h.objs.size → ObjOk X.prog X.w B (h.push { cls := .type "dict", data := .dict #[] }) h.objs.size O0) (hu : X.A.units + 1 < cLine)
    (hc : X.calm = true) (hN : X.N.Nodup) (I : Inv X pins σ H s) (hi : PI X tg src wi) (ok : BlkOk X.N X.env.scope scope own)
    (hg : ∀ (s : Shared) (H : Hp) (C : Addr) (cl : List (Str × Addr)) (fp : List Addr), PG (X.blk s H scope (compEnvC scope cl C X.env) fp) tg g) (ht : ∀ (s : Shared) (H : Hp) (C : Addr) (cl : List (Str × Addr)) (fp : List Addr), PTs (X.blk s H scope (compEnvC scope cl C X.env) fp) tests tt)
    (hk : ∀ (s : Shared) (H : Hp) (C : Addr) (cl : List (Str × Addr)) (fp : List Addr), PE (X.blk s H scope (compEnvC scope cl C X.env) fp) kx tk)
    (hv : ∀ (s : Shared) (H : Hp) (C : Addr) (cl : List (Str × Addr)) (fp : List Addr), PE (X.blk s H scope (compEnvC scope cl C X.env) fp) vx tv) (hs : ∀ x, foldedSetIterable src X.env x = pure x)
    (h : tDcG O0 acc wi g tt tk tv (own.map (·.2)) σ H Q)
    (out : ∀ D C s2 m B, Inv X pins σ B s2 → Q (.ref D) B → s2.heap.Ns C m → FpOk X pins B C → compPost (model X.prog X.w) X.A X.xe use Qf (.ref D) C (.ok .next) s2) :
    wpAny (model X.prog X.w) X.A (comprehension (.DictComp kx vx [⟨tg, src, tests, 0⟩] scope pos) scope X.env pos2 newDict false (eval src X.env) use) Qf X.xe s := by
  have free : ∀ y ∈ scope.names, y.2 = .free → ∃ c, X.env.cells.lookup y.1 = some c := fun y hy e => (ok.free y hy e).elim (fun z => I.ok.has _ (.inl z)) fun z => I.ok.has _ (.inr z)
  refine wpAny_comprehension_free (use := use) rfl hs (closure_ok free) ok.kind (fun y hy e => by rw [ok.uniq y hy, e])
    (thn (hi.run pins s σ H _ I h) fun xv sA hA => thn hA fun iv sB hB => ?_)
  obtain ⟨it, fp, tn, J0, HB, e, IB, T, stB, fB, q⟩ := hB
  subst e
  refine wpAny_newObj_type (newEnv_comp ?_)
  generalize eD : sB.heap.objs.size = D
  have freshD : HB D = none := IB.hok.fresh (Nat.le_of_eq eD)
  obtain ⟨J, ⟨m0, start⟩, turn⟩ := q D freshD
  generalize eC : ({ sB with heap := sB.heap.push { cls := .type "dict", data := .dict #[] } } : Shared) = sC
  have hpC : sC.heap = sB.heap.push { cls := .type "dict", data := .dict #[] } := by rw [← eC]
  have IC : Inv X pins σ (upd HB D O0) sC := by
    rw [← eC]
    refine IB.laid (t' := sB.toks) (fun b o z => Heap.get?_push_of_some _ z) (Nat.le_of_eq eD) ?_
    rw [← eD]
    exact hnew _ sB.heap IB.big
  have lts : ∀ b ∈ fp, b < sB.heap.objs.size := fun b hb => Heap.lt_size (T.obj _ _ stB b hb).choose_spec.1
  have fC : ∀ b ∈ fp, FpOk X pins (upd HB D O0) b ∧ b < sC.heap.objs.size := fun b hb => by
    have lt := lts b hb
    refine ⟨⟨by rw [upd_ne (by rw [← eD]; exact Nat.ne_of_lt lt)]; exact (fB b hb).1, (fB b hb).2⟩, ?_⟩
    rw [hpC, Heap.size_push]
    exact Nat.lt_succ_of_lt lt
  have stC : tn 0 sC.heap := T.keep _ _ _ stB fun b _ o z => by rw [hpC]; exact Heap.get?_push_of_some _ z
  have ID := block_start IC ok hN fC
  generalize eH : upd HB D O0 = HC at IC ID start fC
  have nfp : ∀ b ∈ fp, HC b = none := fun b hb => (fC b hb).1.1
  show codeAny _ _ (.compStart (.DictComp kx vx [⟨tg, src, tests, 0⟩] scope pos) 0 (.ref it) (.ref D) (compEnvC scope (cellsFrom (sC.heap.objs.size + 1) scope.names (cloFrom X.env.cells scope.names [])) sC.heap.objs.size X.env)) (compPost (model X.prog X.w) X.A X.xe use Qf (.ref D) sC.heap.objs.size) { sC with heap := pushCells (sC.heap.push { cls := .type "dict", data := .dict #[] }) scope.names }
  generalize eE : compEnvC scope (cellsFrom (sC.heap.objs.size + 1) scope.names (cloFrom X.env.cells scope.names [])) sC.heap.objs.size X.env = ce at ID ⊢
  have pg : PG (X.blk sC HC scope ce fp) tg g := by rw [← eE]; exact hg ..
  have pt : PTs (X.blk sC HC scope ce fp) tests tt := by rw [← eE]; exact ht ..
  have pk : PE (X.blk sC HC scope ce fp) kx tk := by rw [← eE]; exact hk ..
  have pv : PE (X.blk sC HC scope ce fp) vx tv := by rw [← eE]; exact hv ..
  have locs : ce.locals = sC.heap.objs.size := by rw [← eE]; rfl
  generalize eS : ({ sC with heap := pushCells (sC.heap.push { cls := .type "dict", data := .dict #[] }) scope.names } : Shared) = sD at ID ⊢
  have stD : tn 0 sD.heap := T.keep _ _ _ stC fun b _ o z => by rw [← eS]; exact pushCells_keeps _ _ _ _ (Heap.get?_push_of_some _ z)
  have stay : ∀ {τ : L2.St} {B : Hp} {t : Shared}, Inv (X.blk sC HC scope ce fp) [] τ B t → (∀ b ∈ fp, B b = none) → ∀ b ∈ fp, FpOk (X.blk sC HC scope ce fp) [] B b := fun {τ B t} I2 hn b hb =>
    ⟨hn b hb, (I2.ok.exf b hb).1, I2.ok.exfs b hb, .inl hb, fun x c z => (I2.ok.exf b hb).2 x c z, fun p hp => absurd (show p ∈ ([] : List (Addr × Obj)) ++ [] from hp) (by simp)⟩
  refine codeAny_compStart_dict ?loop (T.self X.A 0 _ _ _ stD ?loop)
  refine compLoop_anyD (fun n t => ∃ i B, Inv (X.blk sC HC scope ce fp) [] (wipe σ (own.map (·.2))) B t ∧ tn i t.heap ∧ (∀ b ∈ fp, B b = none) ∧ J i n B) ?_ m0 ⟨0, HC, ID, stD, nfp, start⟩
  rintro n t ⟨i, B, It, stt, nt, jt⟩
  rcases turn i n B jt with ⟨stop, qq⟩ | ⟨go, N, next, step⟩
  · refine thnF (T.done (X.blk sC HC scope ce fp) rfl rfl rfl hc i [] t _ B (fun _ _ => False) It (stay It nt) stt stop) fun r t2 ⟨er, I2⟩ => ?_
    subst er
    have I3 : Inv X pins σ B t2 := IC.call' (ch := fp) I2.os I2.base I2.hok I2.bare fun b hb => by
      obtain ⟨⟨_, z1, z2, z3, z4, z5⟩, _⟩ := fC b hb
      exact ⟨z3, z1, z4, z5⟩
    obtain ⟨m, hn, _⟩ := I2.loc
    have hn : t2.heap.Ns ce.locals m := hn
    have none1 : B ce.locals = none := I2.free
    rw [locs] at hn none1
    exact out D sC.heap.objs.size t2 m B I3 qq hn (IC.fpOk (Nat.le_refl _) none1)
  · refine thnF (T.item (X.blk sC HC scope ce fp) rfl rfl rfl hc i [] t _ B (fun _ _ => False) It (stay It nt) stt go) fun r t2 ⟨u, er, h2⟩ => ?_
    subst er
    refine thnF h2 fun _ t3 ⟨x, B3, I3, r3, y3, st3, n3⟩ => ?_
    have I4 := I3.pinned (stay I3 n3) (T.obj _ _ st3)
    refine thnF (pg.run _ t3 _ B3 x u _ I4 r3 (step x B3 y3)) fun _ t4 ⟨τ, B4, I5, hw, q5⟩ => ?_
    refine thnF (pt.run _ t4 τ B4 _ I5 q5) fun c t5 ⟨B5, I6, q6⟩ => ?_
    have done : ∀ (B6 : Hp) (t6 : Shared), Inv (X.blk sC HC scope ce fp) ([] ++ pinsAt fp t3.heap) τ B6 t6 → N B6 → ∃ m, m < n ∧ ∃ i B, Inv (X.blk sC HC scope ce fp) [] (wipe σ (own.map (·.2))) B t6 ∧ tn i t6.heap ∧ (∀ b ∈ fp, B b = none) ∧ J i m B := fun B6 t6 I7 hN2 => by
      obtain ⟨m, hm, j7⟩ := next B6 hN2
      have pinned : ∀ b ∈ fp, ∀ o, t3.heap.get? b = some o → t6.heap.get? b = some o ∧ B6 b = none := fun b hb o z => by
        obtain ⟨z1, z2, _⟩ := I7.pin (b, o) (List.mem_append_right _ (List.mem_append_right _ (mem_pinsAt hb z)))
        exact ⟨z1, z2⟩
      refine ⟨m, hm, i + 1, B6, (I7.unpinned (pins := [])).weak (by rw [← hw, wipe_length]) (fun j v z => ?_), T.keep _ _ _ st3 fun b hb o z => (pinned b hb o z).1, fun b hb => ?_, j7⟩
      · rw [← hw] at z
        exact (wipe_some z).1
      · obtain ⟨o, z, _⟩ := T.obj _ _ st3 b hb
        exact (pinned b hb o z).2
    cases c with
    | false =>
      simp only [Bool.false_eq_true, if_false] at q6 ⊢
      exact done _ _ I6 q6
    | true =>
      simp only [if_true] at q6 ⊢
      refine thnF (pk.run _ t5 τ B5 _ I6 q6) fun ku t6 ⟨y, B6, I7, ry, q7⟩ => ?_
      refine thnF (pv.run _ t6 τ B6 _ I7 q7) fun vu t7 ⟨z, B7, I8, rz, q8⟩ => ?_
      exact hacc (X.blk sC HC scope ce fp) _ τ B7 t7 _ D y z ku vu N _ hu I8 ry rz q8 fun B8 t8 I9 hN2 => done B8 t8 I9 hN2
theorem pe_dcG {kx vx tg src : Expr} {tests : List Expr} {scope : Scope} {own : List (Str × Nat)} {pos : Pos} {wi : TI} {g : TG} {tt : TT} {tk tv : TE}
    (hacc : AccD acc) (hnew : ∀ (B : Hp) (h : Heap), sysModules < h.objs.size → ObjOk X.prog X.w B (h.push { cls := .type "dict", data := .dict #[] }) h.objs.size O0) (hu : X.A.units + 1 < cLine)
    (hc : X.calm = true) (hN : X.N.Nodup) (hi : PI X tg src wi) (ok : BlkOk X.N X.env.scope scope own)
    (hg : ∀ (s : Shared) (H : Hp) (C : Addr) (cl : List (Str × Addr)) (fp : List Addr), PG (X.blk s H scope (compEnvC scope cl C X.env) fp) tg g) (ht : ∀ (s : Shared) (H : Hp) (C : Addr) (cl : List (Str × Addr)) (fp : List Addr), PTs (X.blk s H scope (compEnvC scope cl C X.env) fp) tests tt)
    (hk : ∀ (s : Shared) (H : Hp) (C : Addr) (cl : List (Str × Addr)) (fp : List Addr), PE (X.blk s H scope (compEnvC scope cl C X.env) fp) kx tk)
    (hv : ∀ (s : Shared) (H : Hp) (C : Addr) (cl : List (Str × Addr)) (fp : List Addr), PE (X.blk s H scope (compEnvC scope cl C X.env) fp) vx tv) (hs : ∀ x, foldedSetIterable src X.env x = pure x := by intro _; rfl) :
    PE X (.DictComp kx vx [⟨tg, src, tests, 0⟩] scope pos) (tDcG O0 acc wi g tt tk tv (own.map (·.2))) := by
  refine ⟨fun pins s σ H Q I h => ?_⟩
  rw [arm_eval_DictComp]
  refine dcg_core hacc hnew hu hc hN I hi ok hg ht hk hv hs h fun D C t m B I2 q hn f => ⟨m, hn, fun h2 sb => ?_⟩
  obtain ⟨z0, z1, z2, z3, z4, z5⟩ := f
  exact ⟨.ref D, B, I2.turned (t' := t.toks) (fun b o hb e => (sb.2 b hb).trans e) z0 z1 z3 z4 z5, rfl, q⟩
/-- a dict with tuples as keys -/
theorem dt_new {P : Program} {w : World} (B : Hp) (h : Heap) (hb : sysModules < h.objs.size) : ObjOk P w B (h.push { cls := .type "dict", data := .dict #[] }) h.objs.size (.dT []) := dt_empty h hb
end
end Ly

set_option maxHeartbeats 4000000
/-! # dicts with tuples of ints as keys, as data -/
namespace Ly
open PySem L2 PySem.Spec PyProof.Rows
/-- what a dict holds; a store into it -/
def valD (es : List (List Key × Dat)) (k : List Key) : Option Dat := (es.find? fun e => decide (e.1 = k)).map (·.2)
def putD (es : List (List Key × Dat)) (k : List Key) (d : Dat) : List (List Key × Dat) :=
  if (es.any fun e => decide (e.1 = k)) = true then es.map (fun e => if e.1 = k then (e.1, d) else e) else es ++ [(k, d)]
abbrev iK (ns : List Int) : List Key := ns.map Sum.inl
theorem iK_V (ns : List Int) : (iK ns).map kV = ns.map V.int := by
  rw [List.map_map]
  rfl
theorem iK_inj {ns ms : List Int} (h : iK ns = iK ms) : ns = ms := by
  have := congrArg (List.map fun k : Key => match k with | .inl i => i | .inr _ => 0) h
  simpa [List.map_map, Function.comp_def] using this
section
variable {K : PySem.W.Frag} {G : Hp}
theorem Dcts.length : ∀ {vs : List (List Key × V)} {es : List (List Key × Dat)}, Dcts K G vs es → vs.length = es.length
  | _, _, .nil => rfl
  | _, _, .cons _ r => by rw [List.length_cons, List.length_cons, Dcts.length r]
theorem Dcts.any {k : List Key} : ∀ {vs : List (List Key × V)} {es : List (List Key × Dat)}, Dcts K G vs es → (vs.any fun e => decide (e.1 = k)) = es.any fun e => decide (e.1 = k)
  | _, _, .nil => rfl
  | _, _, .cons _ r => by rw [List.any_cons, List.any_cons, Dcts.any r]
theorem Dcts.append {v : V} {d : Dat} {k : List Key} (h : Rep K G v d) : ∀ {vs : List (List Key × V)} {es : List (List Key × Dat)}, Dcts K G vs es → Dcts K G (vs ++ [(k, v)]) (es ++ [(k, d)])
  | _, _, .nil => .cons h .nil
  | _, _, .cons q r => .cons q (Dcts.append h r)
theorem Dcts.repl {v : V} {d : Dat} {k : List Key} (h : Rep K G v d) : ∀ {vs : List (List Key × V)} {es : List (List Key × Dat)}, Dcts K G vs es → Dcts K G (vs.map fun e => if e.1 = k then (e.1, v) else e) (es.map fun e => if e.1 = k then (e.1, d) else e)
  | _, _, .nil => .nil
  | _, _, .cons (k := m) q r => by
    rw [List.map_cons, List.map_cons]
    by_cases e : m = k
    · rw [if_pos e, if_pos e]
      exact .cons h (Dcts.repl h r)
    · rw [if_neg e, if_neg e]
      exact .cons q (Dcts.repl h r)
theorem Dcts.put {v : V} {d : Dat} {k : List Key} (h : Rep K G v d) {vs : List (List Key × V)} {es : List (List Key × Dat)} (r : Dcts K G vs es) : Dcts K G (putK vs k v) (putD es k d) := by
  unfold putK putD
  rw [r.any (k := k)]
  split
  · exact r.repl h
  · exact r.append h
theorem Dcts.val {k : List Key} : ∀ {vs : List (List Key × V)} {es : List (List Key × Dat)}, Dcts K G vs es → (valV vs k = none ∧ valD es k = none) ∨ ∃ v d, valV vs k = some v ∧ valD es k = some d ∧ Rep K G v d
  | _, _, .nil => .inl ⟨rfl, rfl⟩
  | _, _, .cons (k := m) (v := v) (d := d) q r => by
    by_cases e : m = k
    · exact .inr ⟨v, d, by rw [valV_pos e], by simp [valD, List.find?_cons, e], q⟩
    · rw [valV_neg e]
      have e2 : ∀ (es : List (List Key × Dat)), valD ((m, d) :: es) k = valD es k := fun es => by simp [valD, List.find?_cons, e]
      rw [e2]
      exact Dcts.val r
theorem putD_len (es : List (List Key × Dat)) (k : List Key) (d : Dat) : (putD es k d).length ≤ es.length + 1 := by
  unfold putD
  split
  · rw [List.length_map]; omega
  · rw [List.length_append]; simp
end
section
variable {W : Wd} {K : PySem.W.Frag} {Γ : List (Option Dat)} {ta tb tc te tl tv tn : TE} {tt tu : TT} {tA : TA} {P R : Dat → Prop} {d a b : Dat} {G1 G0 H0 G H G2 H2 : Hp} {O : List (Addr × List Dat)} {σ : L2.St} {D : Ends} {tz ts tw : TS}
/-- len of a dict -/
theorem v_lenD {es : List (List Key × Dat)} (h : EvX W K ta Γ (.dct es)) : EvX W K (tCB rLenT (tCons ta tNil)) Γ (.int ((es.length : Nat) : Int)) := v_cbx (a_consx h a_nil) fun G H xs k r Q q => by
  cases r with
  | cons r r0 =>
    cases r0
    cases r with
    | @dct a vs es hg rd => exact ⟨a, vs, rfl, k.ex _ _ hg, q.here k (.int _) (by rw [rd.length])⟩
/-- d.get((i, j)) -/
theorem v_getD {es : List (List Key × Dat)} {ns : List Int} (h : EvX W K ta Γ (.dct es)) (hk : EvAX W K tA Γ (ns.map Dat.int)) (hl : ns.length ≤ 1000) : EvX W K (tDGet1 ta (tTup tA)) Γ ((valD es (iK ns)).getD .non) := fun σ G H env k Q q =>
  h σ G H env k _ fun v e G2 H2 s ee r => by
    subst ee
    have k2 := s.ok k
    cases r with
    | @dct a vs es hg rd =>
      refine ⟨a, rfl, .inr ⟨vs, .inl (k2.ex _ _ hg)⟩, ?_⟩
      refine hk σ G2 H2 (env.mono s.gg) k2 _ fun ws ds G3 H3 s3 e3 r3 => ?_
      subst e3
      have ew := r3.ints
      subst ew
      have s13 := s.trans s3
      have k3 := s13.ok k
      refine ⟨by rw [List.length_map]; exact sz_of (by omega), fun p hp => ?_⟩
      have st := Stp.new (W := W) (o := .tup (ns.map V.int)) k3 hp
      have s14 := s13.trans st
      have hg4 : upd H3 p (.tup (ns.map V.int)) a = some (.dT vs) := by
        rw [upd_ne (ne_of_none (k3.ex _ _ (s3.gg _ _ hg)) hp)]
        exact k3.ex _ _ (s3.gg _ _ hg)
      refine ⟨valV vs (iK ns), DGet.t hg4 (by rw [iK_V]; exact upd_same), ?_⟩
      rcases rd.val (k := iK ns) with ⟨z1, z2⟩ | ⟨v, d, z1, z2, z3⟩
      · rw [z1]
        exact q .non .non _ _ s14 (by rw [z2]; rfl) .non
      · rw [z1]
        rw [z2] at q
        exact q v d _ _ s14 rfl ((z3.mono s3.gg).mono st.gg)
/-- {(i, j): v for x in a tuple} -/
theorem v_dcT {j : Nat} {us : List Dat} {kf : Dat → List Int} {vf : Dat → Dat} (h : EvX W K tl Γ (.tup us)) (hz : us.length ≤ 90000)
    (hk : ∀ d ∈ us, EvAX W K tA ((wipeG Γ [j]).set j (some d)) ((kf d).map Dat.int)) (hkl : ∀ d ∈ us, (kf d).length ≤ 1000) (hv : ∀ d ∈ us, EvX W K tv ((wipeG Γ [j]).set j (some d)) (vf d)) :
    EvX W K (tDcG (.dT []) accT (iTup K tl) (gName j) tYes (tTup tA) tv [j]) Γ (.dct (us.foldl (fun es d => putD es (iK (kf d)) (vf d)) [])) := fun σ G H n k Q q =>
  h σ G H n k _ fun v d G2 H2 s e r => by
    subst e
    obtain ⟨a, xs, rfl, hx, r⟩ := r.tup_inv
    have k2 := s.ok k
    have hlen := r.length
    refine ⟨a, rfl, ⟨xs, ex_t k2.ex hx⟩, fun Dl hD => ?_⟩
    have g2D : G2 Dl = none := by
      cases e : G2 Dl with
      | none => rfl
      | some u =>
        rw [k2.ex Dl u e] at hD
        cases hD
    have nm : ¬ W.m Dl := fun z => by
      obtain ⟨o, ho⟩ := W.tr k2.inv z
      rw [ho] at hD
      cases hD
    refine ⟨fun i m B => m = xs.length - i ∧ i ≤ xs.length ∧ ∃ G' vs, Stp W G2 H2 G' B ∧ G' Dl = none ∧ B Dl = some (.dT vs) ∧ vs.length ≤ i ∧ Dcts K G' vs ((us.take i).foldl (fun es d => putD es (iK (kf d)) (vf d)) []), ⟨xs.length, by simp, Nat.zero_le _, G2, [], Stp.grow k2 (Ex.new hD), g2D, upd_same, Nat.le_refl _, .nil⟩, ?_⟩
    rintro i m B ⟨rfl, hi, G', vs, st, gD, bD, hvl, rd⟩
    have k' := st.ok k2
    have hxB : SqT K B a xs := ex_t (st.gg.trans k'.ex) hx
    by_cases hlt : i < xs.length
    · refine .inr ⟨⟨xs, xs[i], hxB, by simp [hlt]⟩, fun B2 => ∃ G' vs, Stp W G2 H2 G' B2 ∧ G' Dl = none ∧ B2 Dl = some (.dT vs) ∧ vs.length ≤ i + 1 ∧ Dcts K G' vs ((us.take (i + 1)).foldl (fun es d => putD es (iK (kf d)) (vf d)) []), fun B2 p => ⟨xs.length - (i + 1), by omega, rfl, hlt, p⟩, fun x B2 y => ?_⟩
      obtain ⟨e, y⟩ := y
      subst e
      obtain ⟨d, hd, rdx⟩ := r.getV (y xs hxB)
      have hm : d ∈ us := List.mem_of_getElem? hd
      refine ⟨wipe1, ?_⟩
      have env := env_turn (j := j) (n.mono (s.gg.trans st.gg)) (rdx.mono st.gg)
      refine hk d hm _ G' B2 env k' _ fun ws ds G3 B3 s3 e3 r3 => ?_
      subst e3
      have ew := r3.ints
      subst ew
      refine ⟨by rw [List.length_map]; exact sz_of (by have := hkl d hm; omega), fun p hp => ?_⟩
      have k3 := s3.ok k'
      have st3 := Stp.new (W := W) (o := .tup ((kf d).map V.int)) k3 hp
      have s4 := s3.trans st3
      refine hv d hm _ _ _ (env.mono s4.gg) (s4.ok k') _ fun z dz G5 B5 s5 ez rz => ?_
      subst ez
      have s6 := s4.trans s5
      have bD5 := s6.hh Dl _ nm bD
      have gD5 : G5 Dl = none := by
        cases e : G5 Dl with
        | none => rfl
        | some u =>
          rcases s6.nw Dl u e with w | w
          · rw [gD] at w
            cases w
          · rw [bD] at w
            cases w
      have bp : B5 p = some (.tup ((iK (kf d)).map kV)) := by
        rw [iK_V]
        exact s5.gh _ _ (s5.gg _ _ upd_same)
      have hvl2 : vs.length < sizeLine := sz_lt (by omega)
      refine ⟨vs, iK (kf d), p, rfl, bp, bD5, hvl2, G5, putK vs (iK (kf d)) z, ?_, gD5, upd_same, ?_, ?_⟩
      · have s7 := st.trans s6
        refine ⟨s7.gg, fun a u e => ?_, fun a u hm e => ?_, s7.nw, W.loc s7.inv fun a ha => upd_ne fun e => nm (e ▸ ha)⟩
        · rw [upd_ne (ne_of_none e gD5)]
          exact s7.gh a u e
        · rw [upd_ne (ne_of_none e hD)]
          exact s7.hh a u hm e
      · have := length_putK vs (iK (kf d)) z
        omega
      · rw [List.take_succ, hd, List.foldl_append]
        exact (rd.mono s6.gg).put rz
    · have e : i = xs.length := by omega
      subst e
      refine .inl ⟨⟨xs, hxB, Nat.le_refl _⟩, ?_⟩
      rw [hlen, List.take_length] at rd
      have s7 := s.trans st
      have hD0 : H Dl = none := (back s hD).1
      refine q (.ref Dl) _ (upd G' Dl (.dT vs)) B ⟨s7.gg.trans (Ex.new gD), fun a u e => ?_, s7.hh, fun a u e => ?_, s7.inv⟩ rfl (.dct upd_same (rd.mono (Ex.new gD)))
      · by_cases z : a = Dl
        · subst z
          rw [upd_same] at e
          cases e
          exact bD
        · rw [upd_ne z] at e
          exact s7.gh a u e
      · by_cases z : a = Dl
        · subst z
          exact .inr hD0
        · rw [upd_ne z] at e
          exact s7.nw a u e
end
end Ly

set_option maxHeartbeats 4000000
/-! # sorted of a list of tuples of ints, also negative ones -/
namespace TS
open PySem PyProof.Rows
/-- tuples of d ints between -M and M -/
def TupsS (h : Heap) (d : Nat) (M : Int) (vs : List Value) : Prop := ∀ v, v ∈ vs → ∃ ns, TupInts h v ns ∧ ns.length = d ∧ ∀ m ∈ ns, -M ≤ m ∧ m ≤ M
theorem TupsS.keeps {h h' : Heap} {d : Nat} {M : Int} {vs : List Value} (x : TupsS h d M vs) (k : ∀ b o, h.get? b = some o → o.cls = .type "tuple" → h'.get? b = some o) : TupsS h' d M vs := fun v hv => by
  obtain ⟨ns, t, r⟩ := x v hv
  exact ⟨ns, t.keeps k, r⟩
def shf (M : Int) (ns : List Int) : List Int := ns.map (· + M)
/-- the rank of a tuple -/
abbrev rkS (M : Int) (ns : List Int) : Int := code (2 * M + 1) (shf M ns)
theorem shf_bd {M : Int} {ns : List Int} (h : ∀ m ∈ ns, -M ≤ m ∧ m ≤ M) : Bd (2 * M + 1) (shf M ns) := fun k hk => by
  obtain ⟨m, hm, e⟩ := List.mem_map.mp hk
  have := h m hm
  omega
section
variable {prog : Program} {w : World} {A : Around} {E : Value → Shared → Prop} {s : Shared}
theorem lexS {Q : Bool → Shared → Prop} {M : Int} {b : Bool} : ∀ {xs ys : List Value} {ns ms : List Int} (i : Nat), IntsAre xs ns → IntsAre ys ms → ns.length = ms.length → (∀ m ∈ ns, -M ≤ m ∧ m ≤ M) → (∀ m ∈ ms, -M ≤ m ∧ m ≤ M) →
    Q (decide (rkS M ns < rkS M ms)) s → PySem.W.KatLex prog w A b false Q (xs.zip ys) i s
  | _, _, _, _, i, .nil, .nil, _, _, _, h => by
    rw [decide_eq_false (Int.lt_irrefl _)] at h
    exact PySem.W.kat_nil h
  | _, _, _, _, _, .nil, .cons _ _ _, hl, _, _, _ => by simp at hl
  | _, _, _, _, _, .cons _ _ _, .nil, hl, _, _, _ => by simp at hl
  | _, _, _, _, i, .cons (ns := ns) p t hx, .cons (ns := ms) q u hy, hl, h1, h2, h => by
    have hl2 : ns.length = ms.length := by simpa using hl
    have b1 : ∀ m ∈ ns, -M ≤ m ∧ m ≤ M := fun m hm => h1 m (List.mem_cons_of_mem _ hm)
    have b2 : ∀ m ∈ ms, -M ≤ m ∧ m ≤ M := fun m hm => h2 m (List.mem_cons_of_mem _ hm)
    have hl3 : (shf M ns).length = (shf M ms).length := by rw [shf, shf, List.length_map, List.length_map, hl2]
    refine PySem.W.kat_cons (wpAny_eqBool_int ?_)
    by_cases e : p = q
    · subst e
      rw [beq_self_eq_true]
      have z : decide (rkS M (p :: ns) < rkS M (p :: ms)) = decide (rkS M ns < rkS M ms) := decide_eq_decide.mpr (code_same hl3)
      rw [z] at h
      exact PySem.W.kat_yes (lexS (i + 1) hx hy hl2 b1 b2 h)
    · rw [beq_eq_false_iff_ne.mpr e]
      refine PySem.W.kat_no (oneLt_ints _ ?_)
      have z : decide (rkS M (p :: ns) < rkS M (q :: ms)) = decide (p < q) := by
        refine decide_eq_decide.mpr ⟨fun x => ?_, fun x => code_lt (d := p + M) (e := q + M) hl3 (shf_bd b1) (shf_bd b2) (by omega)⟩
        rcases Int.lt_or_lt_of_ne e with y | y
        · exact y
        · have c := code_lt (d := q + M) (e := p + M) hl3.symm (shf_bd b2) (shf_bd b1) (by omega)
          exact absurd x (Int.not_lt.mpr (Int.le_of_lt c))
      rw [z] at h
      exact h
theorem firstsS {h : Heap} {d : Nat} {M : Int} (hd : 1 ≤ d) : ∀ vs : List Value, TupsS h d M vs → ∃ fs, PySem.W.KatTups h vs fs ∧ fs.length = vs.length ∧ ∀ f, f ∈ fs → ∃ n t, f = Value.int n t
  | [], _ => ⟨[], PySem.W.KatTups.nil, rfl, fun f hf => absurd hf List.not_mem_nil⟩
  | v :: vs, x => by
    obtain ⟨fs, k, hl, hi⟩ := firstsS hd vs fun u hu => x u (List.mem_cons_of_mem _ hu)
    obtain ⟨ns, ⟨a, xs, rfl, ⟨o, ho, hc, n, hdt⟩, i⟩, hn, _⟩ := x v List.mem_cons_self
    have hlen := i.length
    cases q : xs.toList with
    | nil =>
      rw [q, List.length_nil] at hlen
      omega
    | cons y ys =>
      obtain ⟨m, t, hy⟩ := i.all y (by rw [q]; exact List.mem_cons_self)
      refine ⟨y :: fs, PySem.W.KatTups.cons ho hc hdt (by have z := congrArg (fun l : List Value => l[0]?) q; simpa using z) k, by simp [hl], fun f hf => ?_⟩
      rcases List.mem_cons.mp hf with e | hf
      · exact ⟨m, t, e.trans hy⟩
      · exact hi f hf
theorem kindS {d : Nat} {M : Int} {vs : List Value} (hd : 1 ≤ d) (h2 : 2 ≤ vs.length) (x : TupsS s.heap d M vs) (r : Value → Int) (hr : ∀ v, v ∈ vs → ∀ ns, TupInts s.heap v ns → r v = rkS M ns) (Q : SortKind → Shared → Prop)
    (h : ∀ κ, Cmp prog w A s κ (pairsOf vs) r → Q κ s) : wpAny (model prog w) A (keyKind' vs.toArray) Q E s := by
  obtain ⟨fs, k, hl, hi⟩ := firstsS hd vs x
  refine PySem.W.kat_kind (T := Value.type "int") k (by omega) (fun f hf => ?_) rfl (h _ fun p q hp hq Q2 E2 hQ => ?_)
  · obtain ⟨n, t, rfl⟩ := hi f hf
    exact PySem.W.Looks.of_pure rfl
  · rw [pairsOf_toList] at hp hq
    obtain ⟨ns, tp, lp, bp⟩ := x _ (mem_zip_self hp).2
    obtain ⟨ms, tq, lq, bq⟩ := x _ (mem_zip_self hq).2
    rw [hr _ (mem_zip_self hp).2 _ tp, hr _ (mem_zip_self hq).2 _ tq] at hQ
    obtain ⟨a, xs, e1, ⟨o, ho, hc, n, hdt⟩, i⟩ := tp
    obtain ⟨a2, ys, e2, ⟨o2, ho2, hc2, n2, hdt2⟩, i2⟩ := tq
    rw [e1, e2]
    refine PySem.W.kat_lt ho hdt ho2 hdt2 ?_
    have l1 := i.length
    have l2 := i2.length
    rw [Array.length_toList] at l1 l2
    rw [show decide (xs.size < ys.size) = false from decide_eq_false (by omega)]
    exact lexS 0 i i2 (by omega) bp bq hQ
theorem sortS {a : Addr} {vs : List Value} {n d : Nat} {M : Int} {P : PySem.Fin → Shared → Prop} (ho : s.heap.get? a = some (seqObj "list" vs.toArray n)) (h64 : vs.length < 64) (hd : 1 ≤ d) (x : TupsS s.heap d M vs)
    (r : Value → Int) (hr : ∀ v, v ∈ vs → ∀ ns, TupInts s.heap v ns → r v = rkS M ns)
    (h : ∀ out : Array Value, out.toList.Perm vs → out.toList.Pairwise (fun u v => r u ≤ r v) → P (.done (.ret .none)) { s with heap := sortedHeap s.heap a vs out }) :
    wpAny (model prog w) A (Builtin.«list.sort» ⟨[.ref a], []⟩) P E s := by
  have stay : ∀ b o, s.heap.get? b = some o → o.cls = .type "tuple" → (midHeap s.heap a vs).get? b = some o := fun b o e hc => midHeap_old (fun z => by
    subst z
    have e2 : seqObj "list" vs.toArray n = o := Option.some.inj (ho.symm.trans e)
    rw [← e2] at hc
    exact absurd (Value.type.inj (show Value.type "list" = Value.type "tuple" from hc)) (by decide)) e
  refine SK.plain_sort (r := r) ho h64 (fun h2 Q hQ => kindS (s := { s with heap := midHeap s.heap a vs }) hd h2 (x.keeps stay) r (fun v hv ns t => ?_) Q hQ) fun ps out h1 h2 h3 => ?_
  · obtain ⟨ns0, t0, _⟩ := x v hv
    rw [t.ints.symm.trans (t0.keeps stay).ints]
    exact hr v hv ns0 t0
  · obtain ⟨z1, z2⟩ := out_rank h1 h2 h3
    exact h out z1 z2
theorem sortedS {l : Addr} {vs : List Value} {d : Nat} {M : Int} {Q : Value → Shared → Prop} (hl : s.heap.IsList l vs.toArray) (h64 : vs.length < 64) (hd : 1 ≤ d) (x : TupsS s.heap d M vs)
    (h : ∀ out : Array Value, out.toList.Perm vs → out.toList.Pairwise (fun u v => rkS M (intsOf s.heap u) ≤ rkS M (intsOf s.heap v)) → Q (.ref (s.heap.objs.size + 1)) { s with heap := sortedAll s.heap vs out }) :
    wpAny (model prog w) A (call (.builtin "sorted") [.ref l]) Q E s := by
  refine Calls.call_function_entry kind_sorted plain_sorted entry_sorted (args_sorted1 _) ?_
  unfold Builtin.«sorted»
  refine wpAny_bind (m := checkCount "sorted" 1 1 _) (wpAny_pure (wpAny_bind (collect_list hl ?_ (by rw [sizeLine_eq]; omega))))
  refine wpAny_bind (wpAny_newList ?_ (by rw [sizeLine_eq]; omega))
  generalize eH : (s.heap.push (seqObj "list" #[] 0)).update s.heap.objs.size (Obj.mapSeq (· ++ vs.toArray)) = h1
  have sz : h1.objs.size = s.heap.objs.size + 1 := by rw [← eH, Heap.size_update, size_push']
  have old : ∀ b o, s.heap.get? b = some o → (h1.push (seqObj "list" vs.toArray 0)).get? b = some o := fun b o q => by
    have lt : b < s.heap.objs.size := Heap.lt_size q
    rw [Heap.get?_push_ne _ _ _ (by rw [sz]; exact Nat.ne_of_lt (Nat.lt_succ_of_lt lt)), ← eH, Heap.get?_update_ne _ _ _ _ (Nat.ne_of_lt lt), Heap.get?_push_ne _ _ _ (Nat.ne_of_lt lt)]
    exact q
  have new : (h1.push (seqObj "list" vs.toArray 0)).get? (s.heap.objs.size + 1) = some (seqObj "list" vs.toArray 0) := by rw [← sz]; exact Heap.get?_push_size _ rfl
  show wpAny _ _ _ _ _ { s with heap := h1.push (seqObj "list" vs.toArray 0) }
  rw [sz]
  refine wpAny_bind (wpAny_holding (wpAny_call_entry slot_list_sort ⟨_, new, rfl⟩ entry_list_sort (sortS new h64 hd (x.keeps fun b o q _ => old b o q) (fun v => rkS M (intsOf s.heap v)) (fun v hv ns t => ?_) fun out z1 z2 => ⟨_, rfl, wpAny_pure ⟨_, rfl, ?_⟩⟩) (args_list_sort _)))
  · obtain ⟨ns0, t0, _⟩ := x v hv
    rw [t.ints.symm.trans (t0.keeps fun b o q _ => old b o q).ints, t0.ints]
  · have e := h out z1 z2
    rw [← eH]
    exact e
end
end TS
namespace Ly
open PySem L2 PySem.Spec PyProof.Rows
section
variable {X : Cx}
/-- sorted(xs), fewer than 64 tuples of d ints between -M and M -/
def rSortS (K : PySem.W.Frag) (d : Nat) (M : Int) : List V → Hp → VK → Prop := fun vs H Q => ∃ (a : Addr) (xs : List V), vs = [V.ref a] ∧ SqL K H a xs ∧ xs.length < 64 ∧ (∀ x ∈ xs, ∃ ns, TupI K H x ns ∧ ns.length = d ∧ ∀ m ∈ ns, -M ≤ m ∧ m ≤ M) ∧
  ∀ (ys : List V) (p : Addr), ys.Perm xs → ys.Pairwise (fun x y => ∀ n m, TupI K H x n → TupI K H y m → TS.rkS M n ≤ TS.rkS M m) → H p = none → Q (.ref p) (upd H p (.lst ys))
theorem cr_sortS {d : Nat} {M : Int} (hd : 1 ≤ d) : CallR X (.builtin "sorted") (rSortS X.K d M) := by
  intro pins s σ H vs us Q I r h
  obtain ⟨a, xs, rfl, hs, h64, hx, q⟩ := h
  obtain ⟨its, rv, hl, hz⟩ := I.list hs
  rw [Vals.ref1 r]
  obtain ⟨e1, e2⟩ := bkV_refs rv fun x m => by
    obtain ⟨ns, ⟨t, e, _⟩, _⟩ := hx x m
    exact ⟨t, e⟩
  refine TS.sortedS (d := d) (M := M) hl.isList (by rw [← rv.length]; exact h64) hd (fun v hv => ?_) fun out h1 h2 => ?_
  · obtain ⟨t, rfl⟩ := e2 v hv
    obtain ⟨ns, ⟨t2, e, ht⟩, hn, hb⟩ := hx (V.ref t) (by rw [e1]; exact List.mem_map.mpr ⟨_, hv, rfl⟩)
    cases e
    exact ⟨ns, tupI_raw I ht, hn, hb⟩
  · obtain ⟨ep, he⟩ := PyProof.Rows.sortedAll_at s.heap its out
    have hp : (out.toList.map bkV).Perm xs := by
      rw [e1]
      exact h1.map bkV
    refine ⟨.ref _, upd H (s.heap.objs.size + 1) (.lst (out.toList.map bkV)), I.laid (t' := s.toks) (fun _ _ => PyProof.Rows.sortedAll_old) (Nat.le_succ _) ⟨by rw [hp.length_eq]; exact hz, out.toList, ep, bkV_vals fun u hu => e2 u (h1.mem_iff.mp hu), he⟩, rfl, q _ _ hp ?_ (I.hok.fresh (Nat.le_succ _))⟩
    rw [List.pairwise_map]
    refine List.Pairwise.imp (fun {u v} huv n m ⟨t, et, ht⟩ ⟨t2, et2, ht2⟩ => ?_) h2
    rw [bkV_ref et, bkV_ref et2, (tupI_raw I ht).ints, (tupI_raw I ht2).ints] at huv
    exact huv
end
/-- rows of ints as data -/
abbrev rowD (ns : List Int) : Dat := .tup (ns.map Dat.int)
theorem reps_perm {K : PySem.W.Frag} {G : Hp} {xs ys : List V} (h : xs.Perm ys) : ∀ {ds : List Dat}, Reps K G xs ds → ∃ es, ds.Perm es ∧ Reps K G ys es := by
  induction h with
  | nil => exact fun r => ⟨_, .refl _, r⟩
  | cons x _ ih =>
    intro ds r
    cases r with
    | cons h r =>
      obtain ⟨es, p, q⟩ := ih r
      exact ⟨_, p.cons _, .cons h q⟩
  | swap x y l =>
    intro ds r
    cases r with
    | cons h r =>
      cases r with
      | cons h2 r => exact ⟨_, .swap _ _ _, .cons h2 (.cons h r)⟩
  | trans _ _ ih1 ih2 =>
    intro ds r
    obtain ⟨es, p1, q1⟩ := ih1 r
    obtain ⟨fs, p2, q2⟩ := ih2 q1
    exact ⟨fs, p1.trans p2, q2⟩
theorem perm_map_inv {α β : Type} {f : α → β} : ∀ {bs cs : List β}, bs.Perm cs → ∀ {as : List α}, bs = as.map f → ∃ es, cs = es.map f ∧ as.Perm es := by
  intro bs cs h
  induction h with
  | nil =>
    intro as e
    cases as with
    | nil => exact ⟨[], rfl, .refl _⟩
    | cons a as => cases e
  | cons x _ ih =>
    intro as e
    cases as with
    | nil => cases e
    | cons a as =>
      obtain ⟨h1, h2⟩ := List.cons.inj e
      obtain ⟨es, e2, p⟩ := ih h2
      exact ⟨a :: es, by rw [h1, e2]; rfl, p.cons _⟩
  | swap x y l =>
    intro as e
    cases as with
    | nil => cases e
    | cons a as =>
      obtain ⟨h1, h2⟩ := List.cons.inj e
      cases as with
      | nil => cases h2
      | cons b as =>
        obtain ⟨h3, h4⟩ := List.cons.inj h2
        exact ⟨b :: a :: as, by rw [h1, h3, h4]; rfl, .swap _ _ _⟩
  | trans _ _ ih1 ih2 =>
    intro as e
    obtain ⟨es, e1, p1⟩ := ih1 e
    obtain ⟨fs, e2, p2⟩ := ih2 e1
    exact ⟨fs, e2, p1.trans p2⟩
section
variable {W : Wd} {K : PySem.W.Frag} {Γ : List (Option Dat)} {ta : TE}
/-- sorted(rows) -/
theorem n_sortS {d : Nat} {M : Int} {rs : List (List Int)} (h : EvX W K ta Γ (.lst (rs.map rowD))) (h64 : rs.length < 64) (hr : ∀ ns ∈ rs, ns.length = d ∧ ∀ m ∈ ns, -M ≤ m ∧ m ≤ M) :
    EvN W K (tCB (rSortS K d M) (tCons ta tNil)) Γ fun ds => ∃ ss : List (List Int), ds = ss.map rowD ∧ ss.Perm rs ∧ ss.Pairwise fun n m => TS.rkS M n ≤ TS.rkS M m := fun σ G H n k Q q =>
  h σ G H n k _ fun v e G2 H2 s ee r => by
    subst ee
    obtain ⟨a, xs, rfl, hs, r⟩ := r.lst_inv
    have k2 := s.ok k
    have hlen := r.length
    rw [List.length_map] at hlen
    have row : ∀ {x : V} {ns : List Int}, Rep K G2 x (rowD ns) → TupI K H2 x ns := fun {x ns} rx => by
      obtain ⟨t, ws, rfl, ht, rw⟩ := rx.tup_inv
      have ew := rw.ints
      subst ew
      exact ⟨t, rfl, ex_t k2.ex ht⟩
    refine ⟨a, xs, rfl, ex_l k2.ex hs, by omega, fun x hx => ?_, fun ys p hp hpw hpn => ?_⟩
    · obtain ⟨i, hi⟩ := List.getElem?_of_mem hx
      obtain ⟨d0, hd, rd⟩ := r.getV hi
      obtain ⟨ns, hn, rfl⟩ := lt_get hd
      exact ⟨ns, row rd, hr ns (List.mem_of_getElem? hn)⟩
    · obtain ⟨es, pe, re⟩ := reps_perm hp.symm r
      obtain ⟨ss, e1, ps⟩ := perm_map_inv pe rfl
      subst e1
      refine q p ys _ G2 _ (s.trans (Stp.grow k2 (Ex.new hpn))) (back s hpn).1 (back (Stp.refl k2) hpn).2 upd_same re ⟨ss, rfl, ps.symm, ?_⟩
      have hpos : ∀ (i j : Nat) (hi : i < ss.length) (hj : j < ss.length), i < j → TS.rkS M ss[i] ≤ TS.rkS M ss[j] := fun i j hi hj hij => by
        obtain ⟨x, hx, rx⟩ := re.get (i := i) (d := rowD ss[i]) (by rw [List.getElem?_map, List.getElem?_eq_getElem hi]; rfl)
        obtain ⟨y, hy, ry⟩ := re.get (i := j) (d := rowD ss[j]) (by rw [List.getElem?_map, List.getElem?_eq_getElem hj]; rfl)
        obtain ⟨hxi, ex⟩ := List.getElem?_eq_some_iff.mp hx
        obtain ⟨hyi, ey⟩ := List.getElem?_eq_some_iff.mp hy
        have z := List.pairwise_iff_getElem.mp hpw i j hxi hyi hij
        rw [ex, ey] at z
        exact z _ _ (row rx) (row ry)
      exact List.pairwise_iff_getElem.mpr fun i j hi hj hij => hpos i j hi hj hij
end
end Ly

set_option maxHeartbeats 4000000
/-! # sets of texts: a comprehension, sorted of it -/
namespace Ly
open PySem L2 PySem.Spec PyProof.Rows PpSet
/-- the table rises and is led -/
def Led (w : World) (D : Froz.SD) : Prop := Ris D.2.2.place.toList ∧ (w.params.followText "set-order" = true ∨ D.2.2.led = true)
/-- the set at a has the texts l -/
def TxS (P : Program) (w : World) (h : Heap) (a : Addr) (l : List Str) : Prop := ∃ D : Froz.SD, h.get? a = some (Froz.sObj "set" D) ∧ Froz.TxOk P w D l ∧ l.Nodup ∧ Led w D
def SetS (P : Program) (w : World) (a : Addr) (l : List Str) : HO := .ext fun h => TxS P w h a l
def addL (l : List Str) (k : Str) : List Str := if k ∈ l then l else k :: l
section
variable {P : Program} {w : World} {A : Around} {E : Value → Shared → Prop} {s : Shared} {a : Addr} {l : List Str}
end
section
variable {X : Cx}
def rSrtS (P : Program) (w : World) : List V → Hp → VK → Prop := fun vs H Q => ∃ (a : Addr) (l : List Str), vs = [V.ref a] ∧ H a = some (SetS P w a l) ∧ l.length < 64 ∧ ∀ ys p, ys.Perm l → sortedS ys = true → H p = none → Q (.ref p) (upd H p (.lst (ys.map V.str)))
end
end Ly

set_option maxHeartbeats 4000000
/-! # a set comprehension, the adding a word of its own -/
namespace Ly
open PySem L2 PySem.Spec PyProof.Rows PpSet
abbrev AccS := V → Addr → Hp → (Hp → Prop) → Prop
/-- the adding: from any context -/
def AccSD (P : Program) (w : World) (acc : AccS) : Prop := ∀ (X : Cx) (pins : List (Addr × Obj)) (τ : L2.St) (B : Hp) (t : Shared) (F : Value → Shared → Prop) (D : Addr) (y : V) (u : Value) (N : Hp → Prop) (Q : Value → Shared → Prop),
  X.prog = P → X.w = w → Inv X pins τ B t → RelV y u → acc y D B N → (∀ v B2 t2, Inv X pins τ B2 t2 → N B2 → Q v t2) → wpAny (model X.prog X.w) X.A (call (.builtin "set.add") [.ref D, u]) Q F t
def accTx (P : Program) (w : World) : AccS := fun y D B N => ∃ k l, y = .str k ∧ B D = some (SetS P w D l) ∧ l.length + 1 < scanBound ∧ N (upd B D (SetS P w D (addL l k)))
def tScG (O0 : Addr → HO) (acc : AccS) (wi : TI) (g : TG) (tt : TT) (te : TE) (vs : List Nat) : TE := fun σ H Q => wi σ H fun it H1 => ∀ D, H1 D = none → ∃ J : Nat → Nat → Hp → Prop, (∃ m, J 0 m (upd H1 D (O0 D))) ∧ ∀ i m B, J i m B →
  (it.stop i B ∧ Q (.ref D) B) ∨ (it.go i B ∧ ∃ N : Hp → Prop, (∀ B2, N B2 → ∃ k, k < m ∧ J (i + 1) k B2) ∧ ∀ x B2, it.yld i B x B2 → g x (wipe σ vs) B2 fun τ B3 => wipe τ vs = wipe σ vs ∧ tt τ B3 fun c B4 =>
    if c = true then te τ B4 fun y B5 => acc y D B5 N else N B4)
section
variable {X : Cx} {acc : AccS} {O0 : Addr → HO}
end
end Ly

set_option maxHeartbeats 4000000
/-! # sorted of a set comprehension of texts -/
namespace Ly
open PySem L2 PySem.Spec PyProof.Rows
section
variable {W : Wd} {K : PySem.W.Frag} {Γ : List (Option Dat)} {te tl : TE} {tt : TT} {G H G2 H2 : Hp} {P : Program} {w : World}
theorem Stp.own {Dl : Addr} {o : HO} (s : Stp W G H G2 H2) (gD : G2 Dl = none) (hD : H Dl = none) (nm : ¬ W.m Dl) : Stp W G H G2 (upd H2 Dl o) :=
  ⟨s.gg, fun a u e => by rw [upd_ne (ne_of_none e gD)]; exact s.gh a u e, fun a u hm e => by rw [upd_ne (ne_of_none e hD)]; exact s.hh a u hm e, s.nw, W.loc s.inv fun a ha => upd_ne fun e => nm (e ▸ ha)⟩
theorem Ok.nm {Dl : Addr} (k : Ok W G H) (hD : H Dl = none) : ¬ W.m Dl := fun z => by
  obtain ⟨o, ho⟩ := W.tr k.inv z
  rw [ho] at hD
  cases hD
end
end Ly

set_option maxHeartbeats 4000000
/-! # calls whose error passes on -/
namespace Ly
open PySem L2 PySem.Spec PyProof.Rows
section
variable {W : Wd} {K : PySem.W.Frag} {Γ : List (Option Dat)} {ta tb tc te tl tv tn : TE} {tt tu : TT} {tA : TA} {P : Dat → Prop} {d a b e : Dat} {G1 G0 H0 G H G2 H2 : Hp} {O : List (Addr × List Dat)} {σ : L2.St} {D : Ends} {tz ts tw : TS} {Q : VK} {E : XK}
end
end Ly

set_option maxHeartbeats 4000000
/-! # a, *b of a list; stars in a tuple; None in a list; powers, abs, min and max of a list -/
namespace Ly
open PySem L2 PySem.Spec PyProof.Rows
section
variable {prog : Program} {w : World} {A : Around} {E : Value → Shared → Prop} {s : Shared}
end
section
variable {X : Cx} {pos : Pos}
/-- (a, .., *b, ..) = a list -/
def gLstS (K : PySem.W.Frag) (n i : Nat) (t : TGs) : TG := fun v σ H Q => ∃ a xs, v = .ref a ∧ SqL K H a xs ∧ n ≤ xs.length + 1 ∧ xs.length ≤ 16384 ∧
  ∀ p, H p = none → t (xs.take i ++ [.ref p] ++ (xs.drop i).drop (xs.length + 1 - n)) σ (upd H p (.lst ((xs.drop i).take (xs.length + 1 - n)))) Q
end
section
variable {W : Wd} {K : PySem.W.Frag} {Γ : List (Option Dat)} {ta tb tc te tl tv tn : TE} {tt tu : TT} {tA : TA} {P R S : Dat → Prop} {d a b : Dat} {G1 G0 H0 G H G2 H2 : Hp} {O : List (Addr × List Dat)} {σ : L2.St} {D : Ends} {tz ts tw : TS}
theorem v_pow {i j : Int} (ha : EvX W K ta Γ (.int i)) (hb : EvX W K tb Γ (.int j)) (hc : CPow i j) : EvX W K (tOp (rI CPow fun i j => .int (i ^ j.toNat)) ta tb) Γ (.int (i ^ j.toNat)) := v_opx ha hb (rv_I (g := fun i j => .int (i ^ j.toNat)) (fun _ => .int _) hc)
abbrev rAbs : List V → Hp → VK → Prop := fun xs H Q => ∃ i, xs = [.int i] ∧ Q (.int (if i < 0 then -i else i)) H
theorem v_abs {i : Int} (h : EvX W K ta Γ (.int i)) : EvX W K (tCB rAbs (tCons ta tNil)) Γ (.int (if i < 0 then -i else i)) := v_cbx (a_consx h a_nil) fun G H xs k r Q q => by
  cases r with
  | cons r r0 =>
    cases r0
    cases r
    exact ⟨i, rfl, q.here k (.int _) rfl⟩
abbrev rMax2 : List V → Hp → VK → Prop := fun xs H Q => ∃ i j, xs = [.int i, .int j] ∧ Q (.int (if j > i then j else i)) H
/-- None or an int, as data -/
def oiD : Option Int → Dat
  | none => .non
  | some i => .int i
def oiV : Option Int → V
  | none => .non
  | some i => .int i
/-- min, max of a list of ints -/
theorem v_minL {ns : List Int} {P : Int → Prop} (h : EvX W K ta Γ (.lst (dI ns))) (hn : 0 < ns.length) (hp : ∀ m, m ∈ ns → (∀ y, y ∈ ns → m ≤ y) → P m) : Ev W K (tCB (rMin K) (tCons ta tNil)) Γ fun d => ∃ m, d = .int m ∧ P m := v_cbx (a_consx h a_nil) fun G H xs k r Q q => by
  cases r with
  | cons r r0 =>
    cases r0
    obtain ⟨a, xs, rfl, hs, r⟩ := r.lst_inv
    have ex := r.ints
    subst ex
    exact ⟨a, ns, rfl, ex_l k.ex hs, hn, fun m h1 h2 => q.here k (.int m) ⟨m, rfl, hp m h1 h2⟩⟩
theorem v_maxL {ns : List Int} {P : Int → Prop} (h : EvX W K ta Γ (.lst (dI ns))) (hn : 0 < ns.length) (hp : ∀ m, m ∈ ns → (∀ y, y ∈ ns → y ≤ m) → P m) : Ev W K (tCB (rMax K) (tCons ta tNil)) Γ fun d => ∃ m, d = .int m ∧ P m := v_cbx (a_consx h a_nil) fun G H xs k r Q q => by
  cases r with
  | cons r r0 =>
    cases r0
    obtain ⟨a, xs, rfl, hs, r⟩ := r.lst_inv
    have ex := r.ints
    subst ex
    exact ⟨a, ns, rfl, ex_l k.ex hs, hn, fun m h1 h2 => q.here k (.int m) ⟨m, rfl, hp m h1 h2⟩⟩
end
end Ly

set_option maxHeartbeats 4000000
/-! # an object in the making is looked at; a dict of the body's own; look-ups in a known dict -/
namespace Ly
open PySem L2 PySem.Spec PyProof.Rows
/-! ## data without objects -/
mutual
def NO : Dat → Prop
  | .non => True
  | .bl _ => True
  | .int _ => True
  | .str _ => True
  | .adr _ => True
  | .tup ds => NOs ds
  | .lst ds => NOs ds
  | .obj _ _ => False
  | .dct es => NOd es
  | .dcs es => NOk es
def NOs : List Dat → Prop
  | [] => True
  | d :: ds => NO d ∧ NOs ds
def NOd : List (List Key × Dat) → Prop
  | [] => True
  | (_, d) :: ds => NO d ∧ NOd ds
def NOk : List (Key × Dat) → Prop
  | [] => True
  | (_, d) :: ds => NO d ∧ NOk ds
end
section
variable {K : PySem.W.Frag} {G : Hp} {x C dx : Addr} {fs : List (Str × V)}
theorem sqt_hid {a : Addr} {xs : List V} (hl : G x = some (.ins C dx fs)) (h : SqT K G a xs) : SqT K (del G x) a xs := by
  rcases h with (h | ⟨o, h⟩) | h
  · refine .inl (.inl ?_)
    rw [del_ne (ne_of h hl (by intro z; cases z))]
    exact h
  · refine .inl (.inr ⟨o, ?_⟩)
    rw [del_ne (ne_of h hl (by intro z; cases z))]
    exact h
  · exact .inr h
theorem sql_hid {a : Addr} {xs : List V} (hl : G x = some (.ins C dx fs)) (h : SqL K G a xs) : SqL K (del G x) a xs := by
  rcases h with (h | ⟨o, h⟩) | h
  · refine .inl (.inl ?_)
    rw [del_ne (ne_of h hl (by intro z; cases z))]
    exact h
  · refine .inl (.inr ⟨o, ?_⟩)
    rw [del_ne (ne_of h hl (by intro z; cases z))]
    exact h
  · exact .inr h
mutual
theorem Rep.hide (hl : G x = some (.ins C dx fs)) : ∀ {v : V} {d : Dat}, NO d → Rep K G v d → Rep K (del G x) v d
  | _, _, _, .non => .non
  | _, _, _, .bl b => .bl b
  | _, _, _, .int i => .int i
  | _, _, _, .str x => .str x
  | _, _, _, .adr a => .adr a
  | _, _, n, .tup h r => by
    rw [NO] at n
    exact .tup (sqt_hid hl h) (Reps.hide hl n r)
  | _, _, n, .lst h r => by
    rw [NO] at n
    exact .lst (sql_hid hl h) (Reps.hide hl n r)
  | _, _, n, .obj h r => by
    rw [NO] at n
    exact n.elim
  | _, _, n, .dct h r => by
    rw [NO] at n
    refine .dct (G := del G x) (by rw [del_ne (ne_of h hl (by intro z; cases z))]; exact h) (Dcts.hide hl n r)
  | _, _, n, .dcs h r => by
    rw [NO] at n
    refine .dcs (G := del G x) (by rw [del_ne (ne_of h hl (by intro z; cases z))]; exact h) (Dcks.hide hl n r)
theorem Reps.hide (hl : G x = some (.ins C dx fs)) : ∀ {v : List V} {d : List Dat}, NOs d → Reps K G v d → Reps K (del G x) v d
  | _, _, _, .nil => .nil
  | _, _, n, .cons h r => by
    rw [NOs] at n
    exact .cons (Rep.hide hl n.1 h) (Reps.hide hl n.2 r)
theorem Dcts.hide (hl : G x = some (.ins C dx fs)) : ∀ {v : List (List Key × V)} {d : List (List Key × Dat)}, NOd d → Dcts K G v d → Dcts K (del G x) v d
  | _, _, _, .nil => .nil
  | _, _, n, .cons h r => by
    rw [NOd] at n
    exact .cons (Rep.hide hl n.1 h) (Dcts.hide hl n.2 r)
theorem Dcks.hide (hl : G x = some (.ins C dx fs)) : ∀ {v : List (Key × V)} {d : List (Key × Dat)}, NOk d → Dcks K G v d → Dcks K (del G x) v d
  | _, _, _, .nil => .nil
  | _, _, n, .cons h r => by
    rw [NOk] at n
    exact .cons (Rep.hide hl n.1 h) (Dcks.hide hl n.2 r)
end
theorem NOs.ints : ∀ (ns : List Int), NOs (ns.map Dat.int)
  | [] => by simp [NOs]
  | n :: ns => by
    rw [List.map_cons, NOs]
    exact ⟨by simp [NO], NOs.ints ns⟩
theorem NOs.rows : ∀ (rs : List (List Int)), NOs (rs.map rowD)
  | [] => by simp [NOs]
  | r :: rs => by
    rw [List.map_cons, NOs]
    exact ⟨by rw [NO]; exact NOs.ints r, NOs.rows rs⟩
theorem NOd.put {k : List Key} {d : Dat} (hd : NO d) : ∀ {es : List (List Key × Dat)}, NOd es → NOd (putD es k d) := by
  have app : ∀ {es : List (List Key × Dat)}, NOd es → NOd (es ++ [(k, d)]) := by
    intro es
    induction es with
    | nil => intro _; simp [NOd, hd]
    | cons e es ih =>
      intro h
      obtain ⟨a, b⟩ := e
      rw [NOd] at h
      rw [List.cons_append, NOd]
      exact ⟨h.1, ih h.2⟩
  have mp : ∀ {es : List (List Key × Dat)}, NOd es → NOd (es.map fun e => if e.1 = k then (e.1, d) else e) := by
    intro es
    induction es with
    | nil => intro h; exact h
    | cons e es ih =>
      intro h
      obtain ⟨a, b⟩ := e
      rw [NOd] at h
      rw [List.map_cons]
      by_cases q : a = k
      · rw [if_pos q, NOd]
        exact ⟨hd, ih h.2⟩
      · rw [if_neg q, NOd]
        exact ⟨h.1, ih h.2⟩
  intro es h
  unfold putD
  split
  · exact mp h
  · exact app h
end
/-! ## looking at an object in the making -/
section
variable {W : Wd} {K : PySem.W.Frag} {Γ : List (Option Dat)} {ta tb tc te tl tv tn : TE} {tt tu : TT} {tA : TA} {P R : Dat → Prop} {d a b : Dat} {G1 G0 H0 G H G2 H2 : Hp} {O : List (Addr × List Dat)} {σ : L2.St} {D : Ends} {tz ts tw : TS} {x C dx : Addr} {fs : List (Str × V)} {fsd : List (Str × Dat)} {f : Str} {i : Nat}
theorem Stp.of_some {G H G2 H2 : Hp} {a : Addr} {o : HO} (s : Stp Wd0 G H G2 H2) (h : H a = some o) : H2 a = some o := s.hh a o (fun z => z) h
theorem S4.lookI (hi : Γ[i]? = some (some (.adr x))) (hf : Flds K G fs fsd) (S : S4 (WI x C dx fs) K G1 G0 H0 Γ [] σ G H) :
    ∃ G', Env K G' σ (Γ.set i (some (.obj C fsd))) ∧ Ok Wd0 G' H ∧ ∀ G2 H2, Stp Wd0 G' H G2 H2 → S4 (WI x C dx fs) K G1 G0 H0 Γ [] σ (del G2 x) H2 ∧ Ex G (del G2 x) ∧ G2 x = some (.ins C dx fs) := by
  have gx : G x = none := S.ok.off x rfl
  have hx : H x = some (.ins C dx fs) := S.ok.inv
  have gg : Ex G (upd G x (.ins C dx fs)) := Ex.new gx
  have eg : Ex (upd G x (.ins C dx fs)) H := fun a u e => by
    by_cases ea : a = x
    · subst ea
      rw [upd_same] at e
      rw [hx]
      exact e
    · rw [upd_ne ea] at e
      exact S.ok.ex a u e
  have env' : Env K (upd G x (.ins C dx fs)) σ (Γ.set i (some (.obj C fsd))) := by
    obtain ⟨v, e1, e2⟩ := S.env.at' i _ hi
    have e3 := e2.adr_inv
    subst e3
    have q : Env K (upd G x (.ins C dx fs)) (σ.set i (some (.ref x))) (Γ.set i (some (.obj C fsd))) := (S.env.mono gg).set (.obj upd_same (hf.mono gg))
    have e4 : σ.set i (some (.ref x)) = σ := by
      apply List.ext_getElem?
      intro j
      by_cases hj : i = j
      · subst hj
        have hlt : i < σ.length := by
          rcases Nat.lt_or_ge i σ.length with q | q
          · exact q
          · rw [List.getElem?_eq_none q] at e1
            cases e1
        rw [List.getElem?_set_self hlt, e1]
      · rw [List.getElem?_set_ne hj]
    rw [e4] at q
    exact q
  refine ⟨_, env', ⟨eg, trivial, fun _ h => h.elim⟩, fun G2 H2 s => ?_⟩
  have g2 : G2 x = some (.ins C dx fs) := s.gg _ _ upd_same
  have ex2 : Ex G (del G2 x) := fun a u e => by
    rw [del_ne (ne_of_none e gx)]
    exact s.gg a u (gg a u e)
  have st : Stp (WI x C dx fs) G H (del G2 x) H2 := ⟨ex2, fun a u e => by
      by_cases ea : a = x
      · subst ea
        rw [del_same] at e
        cases e
      · rw [del_ne ea] at e
        exact s.gh a u e, fun a u _ e => s.of_some e, fun a u e => by
      by_cases ea : a = x
      · subst ea
        rw [del_same] at e
        cases e
      · rw [del_ne ea] at e
        rcases s.nw a u e with q | q
        · rw [upd_ne ea] at q
          exact .inl q
        · exact .inr q, s.of_some hx⟩
  exact ⟨S.step st, ex2, g2⟩
/-- self.f = e, e looking at self -/
theorem g_fldI (hi : Γ[i]? = some (some (.adr x))) (hf : Flds K G fs fsd) (h : Ev Wd0 K tv (Γ.set i (some (.obj C fsd))) P) (hp : ∀ d, P d → NO d) (ho : EvX (WI x C dx fs) K ta Γ (.adr x)) (hc : Cls K C) (hn : NoAttr K C f) (hl : fs.length < 1000) (S : S4 (WI x C dx fs) K G1 G0 H0 Γ [] σ G H)
    (k : ∀ y d G2 H2, P d → Rep K G2 y d → Ex G G2 → S4 (WI x C dx (putF f y fs)) K G1 G0 H0 Γ [] σ G2 H2 → D.nx σ H2) : sFld K ta tv f D σ H := by
  obtain ⟨G', e, o, g⟩ := S.lookI hi hf
  refine h σ G' H e o _ fun y d G2 H2 s p r => ?_
  obtain ⟨S2, ex2, g2⟩ := g G2 H2 s
  have r := Rep.hide g2 (hp d p) r
  refine ho σ _ H2 S2.env S2.ok _ fun v e G3 H3 s3 ee r3 => ?_
  subst ee
  cases r3
  have S3 := S2.step s3
  have hx : H3 x = some (.ins C dx fs) := S3.ok.inv
  refine ⟨x, C, dx, fs, rfl, hx, hc, hn, hl, ?_⟩
  have gx : G3 x = none := S3.ok.off x rfl
  have eg : Ex G3 (upd H3 x (.ins C dx (putF f y fs))) := fun a u e => by
    rw [upd_ne (ne_of_none e gx)]
    exact S3.ok.ex a u e
  refine k y d G3 _ p (r.mono s3.gg) (ex2.trans s3.gg) ⟨S3.env, ⟨eg, upd_same, S3.ok.off⟩, ⟨S3.stp.gg, eg, fun a u hm e => ?_, S3.stp.nw, upd_same⟩, (fun _ _ hm => nomatch hm), List.nodup_nil, S3.fr⟩
  rw [upd_ne hm]
  exact S3.stp.hh a u hm e
theorem q_fldI (hi : Γ[i]? = some (some (.adr x))) (hf : Flds K G fs fsd) (h : Ev Wd0 K tv (Γ.set i (some (.obj C fsd))) P) (hp : ∀ d, P d → NO d) (ho : EvX (WI x C dx fs) K ta Γ (.adr x)) (hc : Cls K C) (hn : NoAttr K C f) (hl : fs.length < 1000) (S : S4 (WI x C dx fs) K G1 G0 H0 Γ [] σ G H)
    (k : ∀ y d G2 H2, P d → Rep K G2 y d → Ex G G2 → S4 (WI x C dx (putF f y fs)) K G1 G0 H0 Γ [] σ G2 H2 → tz D σ H2) : tSeq (sFld K ta tv f) tz D σ H := g_fldI (D := { D with nx := tz D }) hi hf h hp ho hc hn hl S k
/-- an if whose test looks at self -/
theorem g_ifI {P : Bool → Prop} {t1 t2 : TS} (hi : Γ[i]? = some (some (.adr x))) (hf : Flds K G fs fsd) (h : EvB Wd0 K tt (Γ.set i (some (.obj C fsd))) P) (S : S4 (WI x C dx fs) K G1 G0 H0 Γ [] σ G H)
    (k1 : P true → ∀ G2 H2, Ex G G2 → S4 (WI x C dx fs) K G1 G0 H0 Γ [] σ G2 H2 → t1 D σ H2) (k2 : P false → ∀ G2 H2, Ex G G2 → S4 (WI x C dx fs) K G1 G0 H0 Γ [] σ G2 H2 → t2 D σ H2) : tIfS tt t1 t2 D σ H := by
  obtain ⟨G', e, o, g⟩ := S.lookI hi hf
  refine h σ G' H e o _ fun b G2 H2 s p => ?_
  obtain ⟨S2, ex2, g2⟩ := g G2 H2 s
  cases b with
  | true =>
    show t1 D σ H2
    exact k1 p _ H2 ex2 S2
  | false =>
    show t2 D σ H2
    exact k2 p _ H2 ex2 S2
end
/-! ## a dict of the body's own -/
def WT (x : Addr) (vs : List (List Key × V)) : Wd where
  m := fun a => a = x
  I := fun H => H x = some (.dT vs)
  loc := fun h e => by rw [e x rfl]; exact h
  tr := fun h hm => by
    subst hm
    exact ⟨_, h⟩
section
variable {K : PySem.W.Frag} {Γ : List (Option Dat)} {ta tc te tl tv tn : TE} {tt tu : TT} {tA : TA} {P R : Dat → Prop} {d a b : Dat} {G1 G0 H0 G H G2 H2 : Hp} {O : List (Addr × List Dat)} {σ : L2.St} {D : Ends} {tz ts tw tb : TS} {x : Addr} {vs : List (List Key × V)} {es : List (List Key × Dat)} {i : Nat}
/-- d = {} -/
theorem q_newD (S : S4 Wd0 K G1 G0 H0 Γ [] σ G H) (k : ∀ x σ2 H2, H0 x = none → S4 (WT x []) K G1 G0 H0 (Γ.set i (some (.adr x))) [] σ2 G H2 → tz D σ2 H2) : tSeq (tAsg tDNewT (gName i)) tz D σ H := fun p hp => by
  have gp : G p = none := by
    cases e : G p with
    | none => rfl
    | some u =>
      rw [S.ok.ex p u e] at hp
      cases hp
  have h0 : H0 p = none := (back S.stp hp).1
  have S2 := S.set (i := i) (Rep.adr p)
  have eg : Ex G (upd H p (.dT [])) := fun a u e => by
    rw [upd_ne (ne_of_none e gp)]
    exact S.ok.ex a u e
  refine k p _ (upd H p (.dT [])) h0 ⟨S2.env, ⟨eg, upd_same, fun a ha => by rw [show a = p from ha]; exact gp⟩, ⟨S.stp.gg, eg, fun a u hm e => ?_, S.stp.nw, upd_same⟩, (fun _ _ hm => nomatch hm), List.nodup_nil, S2.fr⟩
  rw [upd_ne hm]
  exact S.stp.hh a u (fun z => z) e
/-- d[i, j] = v -/
theorem g_dput {ns : List Int} (hv : Ev (WT x vs) K tv Γ P) (hd : EvX (WT x vs) K ta Γ (.adr x)) (hk : EvAX (WT x vs) K tA Γ (ns.map Dat.int)) (hkl : ns.length ≤ 1000) (hl : vs.length < 100000) (S : S4 (WT x vs) K G1 G0 H0 Γ [] σ G H)
    (k : ∀ z d G2 H2, P d → Rep K G2 z d → Ex G G2 → S4 (WT x (putK vs (iK ns) z)) K G1 G0 H0 Γ [] σ G2 H2 → D.nx σ H2) : sDPut ta (tTup tA) tv D σ H :=
  hv σ G H S.env S.ok _ fun z d G2 H2 s p r => by
    have S2 := S.step s
    refine hd σ G2 H2 S2.env S2.ok _ fun y e G3 H3 s3 ee r3 => ?_
    subst ee
    cases r3
    have S3 := S2.step s3
    refine hk σ G3 H3 S3.env S3.ok _ fun ws ds G4 H4 s4 e4 r4 => ?_
    subst e4
    have ew := r4.ints
    subst ew
    have S4' := S3.step s4
    refine ⟨by rw [List.length_map]; exact sz_of (by omega), fun q hq => ?_⟩
    have st5 := Stp.new (W := WT x vs) (o := .tup (ns.map V.int)) S4'.ok hq
    have S5 := S4'.step st5
    have hx : upd H4 q (.tup (ns.map V.int)) x = some (.dT vs) := S5.ok.inv
    refine ⟨x, _, rfl, DPut.t hx (by rw [iK_V]; exact upd_same) (sz_lt hl), ?_⟩
    have gx : upd G4 q (.tup (ns.map V.int)) x = none := S5.ok.off x rfl
    have eg : Ex (upd G4 q (.tup (ns.map V.int))) (upd (upd H4 q (.tup (ns.map V.int))) x (.dT (putK vs (iK ns) z))) := fun a u e => by
      rw [upd_ne (ne_of_none e gx)]
      exact S5.ok.ex a u e
    refine k z d _ _ p (((r.mono s3.gg).mono s4.gg).mono st5.gg) (((s.gg.trans s3.gg).trans s4.gg).trans st5.gg) ⟨S5.env, ⟨eg, upd_same, S5.ok.off⟩, ⟨S5.stp.gg, eg, fun a u hm e => ?_, S5.stp.nw, upd_same⟩, (fun _ _ hm => nomatch hm), List.nodup_nil, S5.fr⟩
    rw [upd_ne hm]
    exact S5.stp.hh a u hm e
/-- return d -/
theorem g_retD (hi : Γ[i]? = some (some (.adr x))) (h0 : H0 x = none) (hf : Dcts K G vs es) (S : S4 (WT x vs) K G1 G0 H0 Γ [] σ G H) (k : Go Wd0 K G0 H0 (· = .dct es) D.rt) : tRet (tVar i) D σ H := by
  obtain ⟨v, e1, e2⟩ := S.env.at' i _ hi
  have e3 := e2.adr_inv
  subst e3
  have gx : G x = none := S.ok.off x rfl
  have hx : H x = some (.dT vs) := S.ok.inv
  have gg : Ex G (upd G x (.dT vs)) := Ex.new gx
  refine ⟨_, e1, k (.ref x) _ (upd G x (.dT vs)) H ⟨S.stp.gg.trans gg, fun a u e => ?_, fun a u _ e => ?_, fun a u e => ?_, trivial⟩ rfl (.dct upd_same (hf.mono gg))⟩
  · by_cases ea : a = x
    · subst ea
      rw [upd_same] at e
      rw [hx]
      exact e
    · rw [upd_ne ea] at e
      exact S.ok.ex a u e
  · exact S.stp.hh a u (fun z => by
      have z : a = x := z
      rw [z, h0] at e
      cases e) e
  · by_cases ea : a = x
    · subst ea
      exact .inr h0
    · rw [upd_ne ea] at e
      exact S.stp.nw a u e
end
/-! ## look-ups -/
section
variable {W : Wd} {K : PySem.W.Frag} {Γ : List (Option Dat)} {ta tb tc te tl tv tn : TE} {tt tu : TT} {tA : TA} {P R : Dat → Prop} {d : Dat} {G1 G0 H0 G H G2 H2 : Hp} {σ : L2.St}
/-- (i, j) not in d -/
theorem v_notInKT {es : List (List Key × Dat)} {ns : List Int} (hk : EvAX W K tA Γ (ns.map Dat.int)) (h : EvX W K ta Γ (.dct es)) (hl : ns.length ≤ 1000) : EvX W K (tDNotIn (tTup tA) ta) Γ (.bl (!(valD es (iK ns)).isSome)) := fun σ G H env k Q q =>
  hk σ G H env k _ fun ws ds G2 H2 s e r => by
    subst e
    have ew := r.ints
    subst ew
    have k2 := s.ok k
    refine ⟨by rw [List.length_map]; exact sz_of (by omega), fun p hp => ?_⟩
    have st := Stp.new (W := W) (o := .tup (ns.map V.int)) k2 hp
    have s2 := s.trans st
    have k3 := s2.ok k
    refine h σ _ _ (env.mono s2.gg) k3 _ fun v e G4 H4 s4 ee r4 => ?_
    subst ee
    cases r4 with
    | @dct a vs es hg rd =>
      have s5 := s2.trans s4
      have hb : H4 p = some (.tup ((iK ns).map kV)) := by
        rw [iK_V]
        exact s4.gh _ _ (s4.gg _ _ upd_same)
      refine ⟨a, valV vs (iK ns), rfl, DGet.t ((s5.ok k).ex _ _ hg) hb, ?_⟩
      rcases rd.val (k := iK ns) with ⟨z1, z2⟩ | ⟨v, d, z1, z2, z3⟩
      · rw [z1]
        exact q _ _ _ _ s5 (by rw [z2]; rfl) (.bl _)
      · rw [z1]
        exact q _ _ _ _ s5 (by rw [z2]; rfl) (.bl _)
/-- d[i, j] -/
theorem v_ixKT {es : List (List Key × Dat)} {ns : List Int} (h : EvX W K ta Γ (.dct es)) (hk : EvAX W K tA Γ (ns.map Dat.int)) (hl : ns.length ≤ 1000) (hv : valD es (iK ns) = some d) : EvX W K (tDGet ta (tTup tA)) Γ d := fun σ G H env k Q q =>
  h σ G H env k _ fun v e G2 H2 s ee r => by
    subst ee
    cases r with
    | @dct a vs es hg rd =>
      have k2 := s.ok k
      refine hk σ G2 H2 (env.mono s.gg) k2 _ fun ws ds G3 H3 s3 e3 r3 => ?_
      subst e3
      have ew := r3.ints
      subst ew
      have s13 := s.trans s3
      have k3 := s13.ok k
      refine ⟨by rw [List.length_map]; exact sz_of (by omega), fun p hp => ?_⟩
      have st := Stp.new (W := W) (o := .tup (ns.map V.int)) k3 hp
      have s14 := s13.trans st
      have hg4 : upd H3 p (.tup (ns.map V.int)) a = some (.dT vs) := by
        rw [upd_ne (ne_of_none (k3.ex _ _ (s3.gg _ _ hg)) hp)]
        exact k3.ex _ _ (s3.gg _ _ hg)
      rcases rd.val (k := iK ns) with ⟨z1, z2⟩ | ⟨v, d2, z1, z2, z3⟩
      · rw [hv] at z2
        cases z2
      · rw [hv] at z2
        cases z2
        exact ⟨a, v, rfl, z1 ▸ DGet.t hg4 (by rw [iK_V]; exact upd_same), q v _ _ _ s14 rfl ((z3.mono s3.gg).mono st.gg)⟩
end
end Ly

set_option maxHeartbeats 4000000
/-! # Turing machines as data -/
namespace Tu
open PySem L2 Ly
/-! ## sides -/
def strip (ns : List Int) : List Int := (ns.reverse.dropWhile (· == 0)).reverse
theorem strip_zero {ns : List Int} {e : Nat} (h : ns[e]? = some 0) : strip (ns.take (e + 1)) = strip (ns.take e) := by
  obtain ⟨hl, he⟩ := List.getElem?_eq_some_iff.mp h
  unfold strip
  rw [List.take_succ, h]
  simp
theorem strip_done {ns : List Int} {e : Nat} {x : Int} (h : ns[e]? = some x) (hx : x ≠ 0) : strip (ns.take (e + 1)) = ns.take (e + 1) := by
  unfold strip
  rw [List.take_succ, h]
  simp [hx]
theorem strip_len (ns : List Int) : (strip ns).length ≤ ns.length := by
  unfold strip
  rw [List.length_reverse]
  have h := (List.dropWhile_sublist (l := ns.reverse) (· == 0)).length_le
  rw [List.length_reverse] at h
  exact h
def Ends (ns : List Int) : Prop := strip ns = ns
theorem ends_iff {ns : List Int} : Ends ns ↔ ns.reverse.dropWhile (· == 0) = ns.reverse := by
  unfold Ends strip
  constructor
  · intro h
    have := congrArg List.reverse h
    rwa [List.reverse_reverse] at this
  · intro h
    rw [h, List.reverse_reverse]
theorem dropWhile_idem (p : Int → Bool) : ∀ xs : List Int, (xs.dropWhile p).dropWhile p = xs.dropWhile p
  | [] => rfl
  | x :: xs => by
    rw [List.dropWhile_cons]
    split
    · exact dropWhile_idem p xs
    · rename_i h
      rw [List.dropWhile_cons, if_neg h]
theorem ends_strip (ns : List Int) : Ends (strip ns) := by
  rw [ends_iff]
  unfold strip
  rw [List.reverse_reverse, dropWhile_idem]
def push (w : Int) (l : List Int) : List Int := if w = 0 ∧ l = [] then [] else w :: l
theorem strip_cons {w : Int} {l : List Int} (h : Ends l) : strip (w :: l) = push w l := by
  have h := ends_iff.mp h
  unfold push strip
  rw [List.reverse_cons, List.dropWhile_append, h]
  by_cases hl : l = []
  · subst hl
    by_cases hw : w = 0
    · subst hw
      rfl
    · simp [hw]
  · simp [hl]
theorem ends_push {w : Int} {l : List Int} (h : Ends l) : Ends (push w l) := strip_cons h ▸ ends_strip _
theorem ends_tail {l : List Int} (h : Ends l) : Ends l.tail := by
  cases l with
  | nil => exact h
  | cons x t =>
    have h := ends_iff.mp h
    rw [List.tail_cons, ends_iff]
    rw [List.reverse_cons, List.dropWhile_append] at h
    by_cases e : (t.reverse.dropWhile (· == 0)).isEmpty = true
    · rw [if_pos e] at h
      have hl := congrArg List.length h
      have h2 := (List.dropWhile_sublist (l := [x]) (· == 0)).length_le
      rw [List.length_append, List.length_reverse] at hl
      simp at hl h2
      have : t = [] := by
        cases t with
        | nil => rfl
        | cons a b =>
          simp at hl
          omega
      subst this
      rfl
    · rw [if_neg e] at h
      exact List.append_cancel_right h
theorem ends_last {l : List Int} (h : Ends l) (hn : l ≠ []) : ∃ x, l[l.length - 1]? = some x ∧ x ≠ 0 := by
  have h := ends_iff.mp h
  have hr : l.reverse ≠ [] := fun z => hn (List.reverse_eq_nil_iff.mp z)
  cases e : l.reverse with
  | nil => exact absurd e hr
  | cons a b =>
    rw [e, List.dropWhile_cons] at h
    refine ⟨a, ?_, fun z => ?_⟩
    · have e2 : l = b.reverse ++ [a] := by
        have := congrArg List.reverse e
        rw [List.reverse_reverse, List.reverse_cons] at this
        exact this
      rw [e2, List.length_append, List.length_singleton, Nat.add_sub_cancel, List.getElem?_append_right (Nat.le_refl _), Nat.sub_self]
      rfl
    · subst z
      rw [if_pos (by rfl)] at h
      have hl := congrArg List.length h
      have h2 := (List.dropWhile_sublist (l := b) (· == 0)).length_le
      rw [List.length_cons] at hl
      omega
theorem push_len (w : Int) (l : List Int) : (push w l).length ≤ l.length + 1 := by
  unfold push
  split
  · simp
  · simp
theorem push_mem {w x : Int} {l : List Int} (h : x ∈ push w l) : x = w ∨ x ∈ l := by
  unfold push at h
  split at h
  · cases h
  · exact List.mem_cons.mp h
/-! ## rules and look-ups -/
def GoodR (st sy : Int) (r : List Int) : Prop := ∃ q s w m f : Int, r = [q, s, w, m, f] ∧ (0 ≤ q ∧ q < st) ∧ (0 ≤ s ∧ s < sy) ∧ (0 ≤ w ∧ w < sy) ∧ (m = -1 ∨ m = 0 ∨ m = 1) ∧ 0 ≤ f ∧ f < st
abbrev valR (r : List Int) : Dat := .tup ((r.drop 2).map Dat.int)
theorem valD_put (es : List (List Key × Dat)) (k k2 : List Key) (d : Dat) : valD (putD es k d) k2 = if k = k2 then some d else valD es k2 := by
  unfold putD
  split
  · rename_i h
    induction es with
    | nil => cases h
    | cons e es ih =>
      rw [List.map_cons]
      unfold valD at ih ⊢
      by_cases c : e.1 = k
      · rw [if_pos c, List.find?_cons, List.find?_cons]
        by_cases c2 : k = k2
        · subst c2
          simp [c]
        · have c3 : ¬ e.1 = k2 := fun z => c2 (c ▸ z)
          rw [if_neg c2]
          simp only [c3, decide_false]
          clear ih h
          induction es with
          | nil => rfl
          | cons e2 es ih2 =>
            rw [List.map_cons, List.find?_cons, List.find?_cons]
            by_cases c4 : e2.1 = k
            · have c5 : ¬ e2.1 = k2 := fun z => c2 (c4 ▸ z)
              rw [if_pos c4]
              simp only [c5, decide_false]
              exact ih2
            · rw [if_neg c4]
              by_cases c5 : e2.1 = k2
              · simp [c5]
              · simp only [c5, decide_false]
                exact ih2
      · rw [if_neg c, List.find?_cons, List.find?_cons]
        by_cases c3 : e.1 = k2
        · have c2 : ¬ k = k2 := fun z => c (z ▸ c3)
          simp [c3, c2]
        · simp only [c3, decide_false]
          refine ih ?_
          rw [List.any_cons] at h
          simpa [c] using h
  · rename_i h
    unfold valD
    rw [List.find?_append]
    by_cases c2 : k = k2
    · subst c2
      have : es.find? (fun e => decide (e.1 = k)) = none := by
        rw [List.find?_eq_none]
        intro e he
        have h := Bool.eq_false_iff.mpr h
        rw [List.any_eq_false] at h
        exact h e he
      rw [this]
      simp
    · rw [if_neg c2]
      have : List.find? (fun e : List Key × Dat => decide (e.1 = k2)) [(k, d)] = none := by
        simp [c2]
      rw [this, Option.or_none]
theorem putD_new {es : List (List Key × Dat)} {k : List Key} {d : Dat} (h : valD es k = none) : putD es k d = es ++ [(k, d)] := by
  unfold putD
  rw [if_neg]
  intro h2
  rw [List.any_eq_true] at h2
  obtain ⟨e, he, e2⟩ := h2
  unfold valD at h
  rw [Option.map_eq_none_iff, List.find?_eq_none] at h
  exact h e he e2
/-- a table with what `v` makes of the rules -/
structure LookV (v : List Int → Dat) (rows : List (List Int)) (es : List (List Key × Dat)) : Prop where
  inn : ∀ r ∈ rows, valD es (iK (r.take 2)) = some (v r)
  out : ∀ k : List Int, (∀ r ∈ rows, r.take 2 ≠ k) → valD es (iK k) = none
  len : es.length = rows.length
abbrev Look : List (List Int) → List (List Key × Dat) → Prop := LookV valR
abbrev LookW : List (List Int) → List (List Key × Dat) → Prop := LookV rowD
theorem LookV.nil {v : List Int → Dat} : LookV v [] [] := ⟨(fun _ h => nomatch h), fun _ _ => rfl, rfl⟩
theorem LookV.add {v : List Int → Dat} {rows : List (List Int)} {es : List (List Key × Dat)} {r : List Int} (h : LookV v rows es) (hn : ∀ x ∈ rows, x.take 2 ≠ r.take 2) : LookV v (rows ++ [r]) (putD es (iK (r.take 2)) (v r)) := by
  refine ⟨fun x hx => ?_, fun k hk => ?_, ?_⟩
  · rw [valD_put]
    rcases List.mem_append.mp hx with hx | hx
    · rw [if_neg (fun z => hn x hx (iK_inj z).symm)]
      exact h.inn x hx
    · rw [List.mem_singleton.mp hx, if_pos rfl]
  · rw [valD_put, if_neg (fun z => hk r (List.mem_append_right _ (List.mem_singleton.mpr rfl)) (iK_inj z))]
    exact h.out k fun x hx => hk x (List.mem_append_left _ hx)
  · rw [putD_new (h.out _ hn), List.length_append, List.length_append, h.len]
    rfl
theorem LookV.fold {v : List Int → Dat} : ∀ {rows pre : List (List Int)} {es : List (List Key × Dat)}, LookV v pre es → ((pre ++ rows).map (·.take 2)).Nodup → LookV v (pre ++ rows) (rows.foldl (fun es r => putD es (iK (r.take 2)) (v r)) es)
  | [], pre, es, h, _ => by rw [List.append_nil]; exact h
  | r :: rows, pre, es, h, nd => by
    have e : pre ++ r :: rows = (pre ++ [r]) ++ rows := by simp
    rw [e] at nd ⊢
    rw [List.foldl_cons]
    refine LookV.fold (h.add fun x hx z => ?_) nd
    rw [List.map_append, List.map_append, List.nodup_append] at nd
    have nd2 := nd.1
    rw [List.nodup_append] at nd2
    exact nd2.2.2 (x.take 2) (List.mem_map.mpr ⟨x, hx, rfl⟩) (r.take 2) (by simp) z
theorem LookV.perm {v : List Int → Dat} {rows ss : List (List Int)} {es : List (List Key × Dat)} (h : LookV v ss es) (p : ss.Perm rows) : LookV v rows es := ⟨fun r hr => h.inn r (p.mem_iff.mpr hr), fun k hk => h.out k fun r hr => hk r (p.mem_iff.mp hr), h.len.trans p.length_eq⟩
theorem Look.nil : Look [] [] := LookV.nil
theorem Look.fold {rows pre : List (List Int)} {es : List (List Key × Dat)} (h : Look pre es) (nd : ((pre ++ rows).map (·.take 2)).Nodup) : Look (pre ++ rows) (rows.foldl (fun es r => putD es (iK (r.take 2)) (valR r)) es) := LookV.fold h nd
/-! ## configurations, steps -/
abbrev cfD (q : Int) (l : List Int) (s : Int) (r : List Int) : Dat := .tup [.int q, .tup (dI l), .int s, .tup (dI r)]
structure Cf (st sy : Int) (n : Nat) (q : Int) (l : List Int) (s : Int) (r : List Int) : Prop where
  q0 : 0 ≤ q ∧ q < st
  s0 : 0 ≤ s ∧ s < sy
  l0 : InB sy l
  r0 : InB sy r
  le : Ends l
  re : Ends r
  ln : l.length ≤ n
  rn : r.length ≤ n
def stq (m f : Int) : Int := f
def stl (w m : Int) (l : List Int) : List Int := if m = 0 then l else if m = 1 then push w l else l.tail
def sth (w m : Int) (l r : List Int) : Int := if m = 0 then w else if m = 1 then r.headD 0 else l.headD 0
def str' (w m : Int) (r : List Int) : List Int := if m = 0 then r else if m = 1 then r.tail else push w r
abbrev stpD (w m f : Int) (l r : List Int) : Dat := cfD f (stl w m l) (sth w m l r) (str' w m r)
def ruleOf (rows : List (List Int)) (q s : Int) : Option (List Int) := rows.find? fun r => decide (r.take 2 = [q, s])
def deedD (rows : List (List Int)) (q s : Int) : Dat := match ruleOf rows q s with
  | some r => valR r
  | none => .non
def nextD (rows : List (List Int)) (q : Int) (l : List Int) (s : Int) (r : List Int) : Dat := match ruleOf rows q s with
  | some [_, _, w, m, f] => stpD w m f l r
  | _ => .non
theorem LookV.deed {rows : List (List Int)} {es : List (List Key × Dat)} (h : LookV valR rows es) (q s : Int) : (valD es (iK [q, s])).getD .non = deedD rows q s := by
  unfold deedD ruleOf
  cases e : rows.find? (fun r => decide (r.take 2 = [q, s])) with
  | some r =>
    have h1 := List.mem_of_find?_eq_some e
    have h2 : r.take 2 = [q, s] := by simpa using List.find?_some e
    rw [← h2, h.inn r h1]
    rfl
  | none =>
    rw [List.find?_eq_none] at e
    rw [h.out [q, s] fun r hr z => e r hr (decide_eq_true z)]
    rfl
def wholeD (rows : List (List Int)) (q s : Int) : Dat := match ruleOf rows q s with
  | some r => rowD r
  | none => .non
theorem LookV.whole {rows : List (List Int)} {es : List (List Key × Dat)} (h : LookV rowD rows es) (q s : Int) : (valD es (iK [q, s])).getD .non = wholeD rows q s := by
  unfold wholeD ruleOf
  cases e : rows.find? (fun r => decide (r.take 2 = [q, s])) with
  | some r =>
    have h1 := List.mem_of_find?_eq_some e
    have h2 : r.take 2 = [q, s] := by simpa using List.find?_some e
    rw [← h2, h.inn r h1]
    rfl
  | none =>
    rw [List.find?_eq_none] at e
    rw [h.out [q, s] fun r hr z => e r hr (decide_eq_true z)]
    rfl
theorem rule_cases {rows : List (List Int)} {st sy : Int} (hg : ∀ r ∈ rows, GoodR st sy r) (q s : Int) : (ruleOf rows q s = none) ∨ ∃ w m f : Int, ruleOf rows q s = some [q, s, w, m, f] ∧ (0 ≤ w ∧ w < sy) ∧ (m = -1 ∨ m = 0 ∨ m = 1) ∧ 0 ≤ f ∧ f < st := by
  unfold ruleOf
  cases e : rows.find? (fun r => decide (r.take 2 = [q, s])) with
  | none => exact .inl rfl
  | some r =>
    have h1 := List.mem_of_find?_eq_some e
    have h2 : r.take 2 = [q, s] := by simpa using List.find?_some e
    obtain ⟨q2, s2, w, m, f, rfl, _, _, hw, hm, hf⟩ := hg r h1
    simp at h2
    obtain ⟨rfl, rfl⟩ := h2
    exact .inr ⟨w, m, f, rfl, hw, hm, hf⟩
theorem headD_in {sy : Int} {l : List Int} (h : InB sy l) (hs : 0 < sy) : 0 ≤ l.headD 0 ∧ l.headD 0 < sy := by
  cases l with
  | nil => exact ⟨Int.le_refl _, hs⟩
  | cons x t => exact h x List.mem_cons_self
theorem Cf.step {st sy : Int} {n : Nat} {q s w m f : Int} {l r : List Int} (h : Cf st sy n q l s r) (hw : 0 ≤ w ∧ w < sy) (hm : m = -1 ∨ m = 0 ∨ m = 1) (hf : 0 ≤ f ∧ f < st) : Cf st sy (n + 1) f (stl w m l) (sth w m l r) (str' w m r) := by
  have hs : 0 < sy := by omega
  have ln := h.ln
  have rn := h.rn
  have lt := List.length_tail (l := l)
  have rt := List.length_tail (l := r)
  have lp := push_len w l
  have rp := push_len w r
  have tl : ∀ {x : List Int}, InB sy x → InB sy x.tail := fun h y hy => h y (List.mem_of_mem_tail hy)
  have pl : ∀ {x : List Int}, InB sy x → InB sy (push w x) := fun h y hy => by
    rcases push_mem hy with e | hy
    · rw [e]; exact hw
    · exact h y hy
  rcases hm with rfl | rfl | rfl
  · exact ⟨hf, headD_in h.l0 hs, tl h.l0, pl h.r0, ends_tail h.le, ends_push h.re, by show l.tail.length ≤ _; omega, by show (push w r).length ≤ _; omega⟩
  · exact ⟨hf, hw, h.l0, h.r0, h.le, h.re, by show l.length ≤ _; omega, by show r.length ≤ _; omega⟩
  · exact ⟨hf, headD_in h.r0 hs, pl h.l0, tl h.r0, ends_push h.le, ends_tail h.re, by show (push w l).length ≤ _; omega, by show r.tail.length ≤ _; omega⟩
/-- the fields of a machine with these rules -/
def TurF (st sy : Int) (rows : List (List Int)) (fsd : List (Str × Dat)) : Prop := ∃ (ss : List (List Int)) (es : List (List Key × Dat)), ss.Perm rows ∧ LookW rows es ∧ fsd = [(("states" : Str), Dat.int st), (("symbols" : Str), Dat.int sy), (("rules" : Str), Dat.tup (ss.map rowD)), (("_rules_at" : Str), Dat.dct es)]
end Tu

set_option maxHeartbeats 4000000
/-! # an __init__ whose fields are told by what they are; is not of truth values -/
namespace Ly
open PySem L2 PySem.Spec PyProof.Rows
theorem units1 {k : Nat} {A : Around} (hr : Room k A) : A.units + 1 < cLine := by
  have := hr.units
  omega
section
variable {W : Wd} {K : PySem.W.Frag} {Γ : List (Option Dat)} {ta tb tc te tl tv tn : TE} {tt tu : TT} {tA : TA} {P R : Dat → Prop} {d : Dat} {G1 G0 H0 G H G2 H2 : Hp} {O : List (Addr × List Dat)} {σ : L2.St} {D : Ends} {tz ts tw : TS} {C CE : Addr}
abbrev InitP := List Dat → (List (Str × Dat) → Prop) → Prop
def spInitP (K : PySem.W.Frag) (C CE : Addr) (A : InitP) : Sp := fun vs H Q E => ∃ G x dx ds vs' F, vs = .ref x :: vs' ∧ Ok (WI x C dx []) G H ∧ Reps K G vs' ds ∧ A ds F ∧
  (∀ fsd, F fsd → ∀ G2 H2 fs, Stp (WI x C dx fs) G H G2 H2 → Flds K G2 fs fsd → Q .non H2)
theorem make_runP {A : InitP} {vs : List V} {ds : List Dat} {F : List (Str × Dat) → Prop} {Q : VK} {E : XK} (k : Ok W G H) (rr : Reps K G vs ds) (ha : A ds F) (q : Go W K G H (fun d => ∃ fsd, d = .obj C fsd ∧ F fsd) Q) :
    ∀ x dx, H x = none → H dx = none → dx ≠ x → spInitP K C CE A (.ref x :: (vs ++ [])) (upd (upd H dx (.own x)) x (.ins C dx [])) (fun v H2 => v = .non ∧ Q (.ref x) H2) E := fun x dx hx hdx hne => by
  rw [List.append_nil]
  have gx : G x = none := by
    cases e : G x with
    | none => rfl
    | some u =>
      rw [k.ex x u e] at hx
      cases hx
  have eH : ∀ a u, H a = some u → (upd (upd H dx (.own x)) x (.ins C dx [])) a = some u := fun a u e => by
    rw [upd_ne (ne_of_none e hx), upd_ne (ne_of_none e hdx)]
    exact e
  refine ⟨G, x, dx, ds, vs, F, rfl, ⟨fun a u e => eH a u (k.ex a u e), upd_same, fun a ha => by rw [ha]; exact gx⟩, rr, ha, fun fsd er G2 H2 fs s fl => ⟨rfl, ?_⟩⟩
  have g2x : G2 x = none := by
    cases e : G2 x with
    | none => rfl
    | some u =>
      rcases s.nw x u e with z | z
      · rw [gx] at z
        cases z
      · rw [upd_same] at z
        cases z
  have gg : Ex G2 (upd G2 x (.ins C dx fs)) := Ex.new g2x
  have hx2 : H2 x = some (.ins C dx fs) := s.inv
  have keep : ∀ a u, H a = some u → H2 a = some u := fun a u e => s.hh a u (fun z => by
    have z : a = x := z
    rw [z, hx] at e
    cases e) (eH a u e)
  refine q _ (.obj C fsd) (upd G2 x (.ins C dx fs)) H2 ⟨s.gg.trans gg, fun a u e => ?_, fun a u _ e => keep a u e, fun a u e => ?_, ?_⟩ ⟨fsd, rfl, er⟩ (.obj upd_same (fl.mono gg))
  · by_cases q : a = x
    · subst q
      rw [upd_same] at e
      rw [hx2]
      exact e
    · rw [upd_ne q] at e
      exact s.gh a u e
  · by_cases q : a = x
    · subst q
      exact .inr hx
    · rw [upd_ne q] at e
      rcases s.nw a u e with z | z
      · exact .inl z
      · right
        cases h : H a with
        | none => rfl
        | some w =>
          rw [eH a w h] at z
          cases z
  · exact W.loc k.inv fun a ha => by
      obtain ⟨u, hu⟩ := W.tr k.inv ha
      rw [hu]
      exact keep a u hu
theorem atI_last {α : Type} {xs : List α} (h : 0 < xs.length) : atI xs (-1) = xs[xs.length - 1]? := by
  unfold atI ixN
  rw [if_neg (by omega), if_pos (by omega)]
  show xs[((-1 : Int) + (xs.length : Int)).toNat]? = _
  congr 1
  omega
end
end Ly

set_option maxHeartbeats 4000000
/-! # an __init__ that may raise and whose fields are told by what they are; d.get(k, None) -/
namespace Ly
open PySem L2 PySem.Spec PyProof.Rows
section
variable {W : Wd} {K : PySem.W.Frag} {Γ : List (Option Dat)} {ta tb tc te tl tv tn : TE} {tt tu : TT} {tA : TA} {P R : Dat → Prop} {d : Dat} {G1 G0 H0 G H G2 H2 : Hp} {O : List (Addr × List Dat)} {σ : L2.St} {D : Ends} {tz ts tw : TS} {C CE : Addr}
abbrev InitQ := List Dat → Bool → (List (Str × Dat) → Prop) → Prop
def spInitQ (K : PySem.W.Frag) (C CE : Addr) (A : InitQ) : Sp := fun vs H Q E => ∃ G x dx ds vs' b F, vs = .ref x :: vs' ∧ Ok (WI x C dx []) G H ∧ Reps K G vs' ds ∧ A ds b F ∧ (b = false → ∀ H2, E (.ref CE) none H2) ∧
  (b = true → ∀ fsd, F fsd → ∀ G2 H2 fs, Stp (WI x C dx fs) G H G2 H2 → Flds K G2 fs fsd → Q .non H2)
theorem spInitQ_len {A : InitQ} {n : Nat} (h : ∀ ds b F, A ds b F → ds.length = n) : ∀ vs H Q E, spInitQ K C CE A vs H Q E → vs.length = n + 1 := fun vs H Q E ⟨G, x, dx, ds, vs', b, r, e, _, r1, a, _⟩ => by rw [e, List.length_cons, r1.length, h ds b r a]
theorem make_runQ {A : InitQ} {vs : List V} {ds : List Dat} {b : Bool} {F : List (Str × Dat) → Prop} {Q : VK} {E : XK} (k : Ok W G H) (rr : Reps K G vs ds) (ha : A ds b F) (hE : b = false → ∀ H2, E (.ref CE) none H2) (q : b = true → Go W K G H (fun d => ∃ fsd, d = .obj C fsd ∧ F fsd) Q) :
    ∀ x dx, H x = none → H dx = none → dx ≠ x → spInitQ K C CE A (.ref x :: (vs ++ [])) (upd (upd H dx (.own x)) x (.ins C dx [])) (fun v H2 => v = .non ∧ Q (.ref x) H2) E := fun x dx hx hdx hne => by
  cases b with
  | false =>
    rw [List.append_nil]
    have gx : G x = none := by
      cases e : G x with
      | none => rfl
      | some u =>
        rw [k.ex x u e] at hx
        cases hx
    have eH : ∀ a u, H a = some u → (upd (upd H dx (.own x)) x (.ins C dx [])) a = some u := fun a u e => by
      rw [upd_ne (ne_of_none e hx), upd_ne (ne_of_none e hdx)]
      exact e
    exact ⟨G, x, dx, ds, vs, false, F, rfl, ⟨fun a u e => eH a u (k.ex a u e), upd_same, fun a ha => by rw [ha]; exact gx⟩, rr, ha, hE, fun e => nomatch e⟩
  | true =>
    obtain ⟨G', x', dx', ds', vs', F', e1, e2, e3, e4, e5⟩ := make_runP (C := C) (CE := CE) (A := fun ds0 F0 => ds0 = ds ∧ F0 = F) (E := E) k rr ⟨rfl, rfl⟩ (q rfl) x dx hx hdx hne
    obtain ⟨rfl, rfl⟩ := e4
    exact ⟨G', x', dx', ds', vs', true, F', e1, e2, e3, ha, (fun e => nomatch e), fun _ => e5⟩
theorem v_makeQ {A : InitQ} {ds : List Dat} {F : List (Str × Dat) → Prop} {E : XK} (h : EvAX W K tA Γ ds) (ha : A ds true F) : Ev W K (tMake C (spInitQ K C CE A) [] E tA) Γ fun d => ∃ fsd, d = .obj C fsd ∧ F fsd := fun σ G H n k Q q =>
  h σ G H n k _ fun vs ds' G2 H2 s e r => by
    subst e
    exact make_runQ (s.ok k) r ha (fun e => nomatch e) fun _ => q.step s
end
end Ly

set_option maxHeartbeats 4000000
/-! # Turing machines that may be wrong -/
namespace Tu
open PySem L2 Ly TS
/-! ## sorting is unique -/
theorem rkS_inj {M : Int} : ∀ {ns ms : List Int}, ns.length = ms.length → (∀ m ∈ ns, -M ≤ m ∧ m ≤ M) → (∀ m ∈ ms, -M ≤ m ∧ m ≤ M) → rkS M ns = rkS M ms → ns = ms
  | [], [], _, _, _, _ => rfl
  | [], _ :: _, hl, _, _, _ => by simp at hl
  | _ :: _, [], hl, _, _, _ => by simp at hl
  | p :: ns, q :: ms, hl, h1, h2, h => by
    have hl2 : ns.length = ms.length := by simpa using hl
    have b1 : ∀ m ∈ ns, -M ≤ m ∧ m ≤ M := fun m hm => h1 m (List.mem_cons_of_mem _ hm)
    have b2 : ∀ m ∈ ms, -M ≤ m ∧ m ≤ M := fun m hm => h2 m (List.mem_cons_of_mem _ hm)
    have hl3 : (shf M ns).length = (shf M ms).length := by rw [shf, shf, List.length_map, List.length_map, hl2]
    rcases Int.lt_trichotomy p q with e | e | e
    · have c := code_lt (d := p + M) (e := q + M) hl3 (shf_bd b1) (shf_bd b2) (by omega)
      have : rkS M (p :: ns) < rkS M (q :: ms) := c
      omega
    · subst e
      have c1 : ¬ rkS M ns < rkS M ms := fun z => by
        have : rkS M (p :: ns) < rkS M (p :: ms) := (code_same hl3).mpr z
        omega
      have c2 : ¬ rkS M ms < rkS M ns := fun z => by
        have : rkS M (p :: ms) < rkS M (p :: ns) := (code_same hl3.symm).mpr z
        omega
      rw [rkS_inj hl2 b1 b2 (by omega)]
    · have c := code_lt (d := q + M) (e := p + M) hl3.symm (shf_bd b2) (shf_bd b1) (by omega)
      have : rkS M (q :: ms) < rkS M (p :: ns) := c
      omega
theorem sorted_uniq {α : Type} {f : α → Int} : ∀ {as bs : List α}, as.Perm bs → as.Pairwise (fun x y => f x ≤ f y) → bs.Pairwise (fun x y => f x ≤ f y) → (∀ x ∈ as, ∀ y ∈ as, f x = f y → x = y) → as = bs
  | [], bs, p, _, _, _ => p.nil_eq
  | a :: as, [], p, _, _, _ => absurd p.length_eq (by simp)
  | a :: as, b :: bs, p, h1, h2, hi => by
    have ha : a ∈ b :: bs := p.mem_iff.mp List.mem_cons_self
    have hb : b ∈ a :: as := p.mem_iff.mpr List.mem_cons_self
    rw [List.pairwise_cons] at h1 h2
    have e1 : f a ≤ f b := by
      rcases List.mem_cons.mp hb with e | h
      · rw [e]; exact Int.le_refl _
      · exact h1.1 b h
    have e2 : f b ≤ f a := by
      rcases List.mem_cons.mp ha with e | h
      · rw [e]; exact Int.le_refl _
      · exact h2.1 a h
    have e := hi a List.mem_cons_self b hb (by omega)
    subst e
    rw [sorted_uniq p.cons_inv h1.2 h2.2 fun x hx y hy => hi x (List.mem_cons_of_mem _ hx) y (List.mem_cons_of_mem _ hy)]
/-! ## rules that may be wrong -/
def goodB (st sy : Int) : List Int → Bool
  | [q, s, w, m, f] => (decide (0 ≤ q) && decide (q < st)) && ((decide (0 ≤ f) && decide (f < st)) && ((decide (0 ≤ s) && decide (s < sy)) && ((decide (0 ≤ w) && decide (w < sy)) && decide (m ∈ [-1, 0, 1]))))
  | _ => false
theorem goodB_iff {st sy : Int} {r : List Int} : goodB st sy r = true ↔ GoodR st sy r := by
  constructor
  · intro h
    match r, h with
    | [q, s, w, m, f], h =>
      simp [goodB] at h
      exact ⟨q, s, w, m, f, rfl, h.1, h.2.2.1, h.2.2.2.1, h.2.2.2.2, h.2.1⟩
  · rintro ⟨q, s, w, m, f, rfl, h1, h2, h3, h4, h5⟩
    simp [goodB, h1, h2, h3, h5]
    exact h4
def tOk (st sy : Int) (rows : List (List Int)) : Bool := (decide (1 ≤ st) && decide (st ≤ 20000)) && ((decide (2 ≤ sy) && decide (sy ≤ 400)) && (rows.all (goodB st sy) && decide ((rows.map (·.take 2)).Nodup)))
/-- the fields, the rules in order -/
def TurG (st sy : Int) (rows : List (List Int)) (fsd : List (Str × Dat)) : Prop := ∃ (ss : List (List Int)) (es : List (List Key × Dat)), ss.Perm rows ∧ ss.Pairwise (fun n m => rkS 20000 n ≤ rkS 20000 m) ∧ LookW rows es ∧ NLd es ∧ fsd = [(("states" : Str), Dat.int st), (("symbols" : Str), Dat.int sy), (("rules" : Str), Dat.tup (ss.map rowD)), (("_rules_at" : Str), Dat.dct es)]
theorem TurG.tur {st sy : Int} {rows : List (List Int)} {fsd : List (Str × Dat)} (h : TurG st sy rows fsd) : TurF st sy rows fsd := by
  obtain ⟨ss, es, h1, _, h2, _, h3⟩ := h
  exact ⟨ss, es, h1, h2, h3⟩
theorem NLd_put {k : List Key} {d : Dat} (hd : NL d) : ∀ {es : List (List Key × Dat)}, NLd es → NLd (putD es k d) := by
  have app : ∀ {es : List (List Key × Dat)}, NLd es → NLd (es ++ [(k, d)]) := by
    intro es
    induction es with
    | nil => intro _; simp [NLd, hd]
    | cons e es ih =>
      intro h
      obtain ⟨a, b⟩ := e
      rw [NLd] at h
      rw [List.cons_append, NLd]
      exact ⟨h.1, ih h.2⟩
  have mp : ∀ {es : List (List Key × Dat)}, NLd es → NLd (es.map fun e => if e.1 = k then (e.1, d) else e) := by
    intro es
    induction es with
    | nil => intro h; exact h
    | cons e es ih =>
      intro h
      obtain ⟨a, b⟩ := e
      rw [NLd] at h
      rw [List.map_cons]
      by_cases q : a = k
      · rw [if_pos q, NLd]
        exact ⟨hd, ih h.2⟩
      · rw [if_neg q, NLd]
        exact ⟨h.1, ih h.2⟩
  intro es h
  unfold putD
  split
  · exact mp h
  · exact app h
theorem nl_fold {v : List Int → Dat} (hv : ∀ r, NL (v r)) : ∀ (ss : List (List Int)) {es : List (List Key × Dat)}, NLd es → NLd (ss.foldl (fun es r => putD es (iK (r.take 2)) (v r)) es)
  | [], _, h => h
  | r :: ss, es, h => nl_fold hv ss (NLd_put (hv r) h)
theorem nl_rowD (r : List Int) : NL (rowD r) := by rw [NL]; exact NLs.ints _
theorem nls_rows : ∀ rs : List (List Int), NLs (rs.map rowD)
  | [] => by simp [NLs]
  | r :: rs => by
    rw [List.map_cons, NLs]
    exact ⟨by rw [NL]; exact NLs.ints r, nls_rows rs⟩
theorem TurG.nl {st sy : Int} {rows : List (List Int)} {fsd : List (Str × Dat)} (h : TurG st sy rows fsd) : NLf fsd := by
  obtain ⟨ss, es, _, _, _, h2, rfl⟩ := h
  rw [NLf, NLf, NLf, NLf, NLf]
  exact ⟨by rw [NL]; trivial, by rw [NL]; trivial, by rw [NL]; exact nls_rows ss, by rw [NL]; exact h2, trivial⟩
/-- rules for one place make the table short -/
theorem fold_short {v : List Int → Dat} : ∀ {ss pre : List (List Int)} {es : List (List Key × Dat)}, (∀ r ∈ pre, (valD es (iK (r.take 2))).isSome = true) → es.length ≤ pre.length → ¬ ((pre ++ ss).map (·.take 2)).Nodup → (es.length < pre.length ∨ (pre.map (·.take 2)).Nodup) → (ss.foldl (fun es r => putD es (iK (r.take 2)) (v r)) es).length < (pre ++ ss).length
  | [], pre, es, hv, hl, hn, h => by
    rw [List.append_nil] at hn ⊢
    rcases h with h | h
    · exact h
    · exact absurd h hn
  | r :: ss, pre, es, hv, hl, hn, h => by
    have e : pre ++ r :: ss = (pre ++ [r]) ++ ss := by simp
    rw [e] at hn ⊢
    rw [List.foldl_cons]
    have hput : (putD es (iK (r.take 2)) (v r)).length ≤ es.length + 1 := putD_len _ _ _
    refine fold_short (fun y hy => ?_) ?_ hn ?_
    · rw [valD_put]
      by_cases c : iK (r.take 2) = iK (y.take 2)
      · rw [if_pos c]; rfl
      · rw [if_neg c]
        rcases List.mem_append.mp hy with hy | hy
        · exact hv y hy
        · rw [List.mem_singleton.mp hy] at c
          exact absurd rfl c
    · rw [List.length_append, List.length_singleton]
      omega
    · rw [List.length_append, List.length_singleton]
      by_cases c : ∃ y ∈ pre, y.take 2 = r.take 2
      · left
        obtain ⟨y, hy, ey⟩ := c
        have hs := hv y hy
        rw [ey] at hs
        have : (putD es (iK (r.take 2)) (v r)).length = es.length := by
          unfold putD
          rw [if_pos, List.length_map]
          unfold valD at hs
          rw [Option.isSome_map, List.find?_isSome] at hs
          rw [List.any_eq_true]
          exact hs
        omega
      · rcases h with h | h
        · left
          omega
        · right
          rw [List.map_append, List.nodup_append]
          refine ⟨h, by simp, fun a ha b hb z => ?_⟩
          obtain ⟨y, hy, rfl⟩ := List.mem_map.mp ha
          simp at hb
          subst hb
          exact c ⟨y, hy, z⟩
/-! ## sides that may be wrong -/
def inS (sy x : Int) : Bool := decide (0 ≤ x) && decide (x < sy)
def sideB (sy : Int) (l : List Int) : Bool := decide (strip l = l) && l.all (inS sy)
def confB (st sy q : Int) (l : List Int) (s : Int) (r : List Int) : Bool := (decide (0 ≤ q) && decide (q < st)) && ((decide (0 ≤ s) && decide (s < sy)) && (sideB sy l && sideB sy r))
/-! ## what is right and what is not -/
theorem goodB_bd {st sy : Int} {r : List Int} (h : goodB st sy r = true) (h1 : st ≤ 20000) (h2 : sy ≤ 400) : r.length = 5 ∧ ∀ m ∈ r, -20000 ≤ m ∧ m ≤ 20000 := by
  obtain ⟨q, s, w, m, f, rfl, hq, hs, hw, hm, hf⟩ := goodB_iff.mp h
  refine ⟨rfl, fun x hx => ?_⟩
  simp only [List.mem_cons, List.not_mem_nil, or_false] at hx
  rcases hx with rfl | rfl | rfl | rfl | rfl <;> omega
structure TOk (st sy : Int) (rows : List (List Int)) : Prop where
  s1 : 1 ≤ st ∧ st ≤ 20000
  s2 : 2 ≤ sy ∧ sy ≤ 400
  good : ∀ r ∈ rows, goodB st sy r = true
  nd : (rows.map (·.take 2)).Nodup
theorem tOk_iff {st sy : Int} {rows : List (List Int)} : tOk st sy rows = true ↔ TOk st sy rows := by
  unfold tOk
  constructor
  · intro h
    simp only [Bool.and_eq_true, decide_eq_true_eq, List.all_eq_true] at h
    exact ⟨h.1, h.2.1, h.2.2.1, h.2.2.2⟩
  · intro h
    simp only [Bool.and_eq_true, decide_eq_true_eq, List.all_eq_true]
    exact ⟨h.s1, h.s2, h.good, h.nd⟩
def bads (st sy : Int) : List (List Int) := [[st, 0, 0, 0, 0], [0, sy, 0, 0, 0], [0, 0, sy, 0, 0], [0, 0, 0, 2, 0], [0, 0, 0, 0, st], [-1, 0, 0, 0, 0], [0, 0, -1, 1, 0], [0, 0, 0, -2, 0]]
theorem TOk.rev {st sy : Int} {rows : List (List Int)} (h : TOk st sy rows) : TOk st sy rows.reverse := ⟨h.s1, h.s2, fun r hr => h.good r (List.mem_reverse.mp hr), by
  rw [List.map_reverse]
  exact (List.reverse_perm _).nodup_iff.mpr h.nd⟩
theorem TOk.uniq {st sy : Int} {rows ss ss2 : List (List Int)} (h : TOk st sy rows) (p1 : ss.Perm rows) (w1 : ss.Pairwise (fun n m => rkS 20000 n ≤ rkS 20000 m)) (p2 : ss2.Perm rows) (w2 : ss2.Pairwise (fun n m => rkS 20000 n ≤ rkS 20000 m)) : ss = ss2 :=
  sorted_uniq (p1.trans p2.symm) w1 w2 fun x hx y hy e => by
    have b1 := goodB_bd (h.good x (p1.mem_iff.mp hx)) h.s1.2 h.s2.2
    have b2 := goodB_bd (h.good y (p1.mem_iff.mp hy)) h.s1.2 h.s2.2
    exact rkS_inj (b1.1.trans b2.1.symm) b1.2 b2.2 e
end Tu

set_option maxHeartbeats 4000000
/-! # more words for lists and made objects -/
namespace Ly
open PySem L2 PySem.Spec PyProof.Rows
section
variable {K : PySem.W.Frag} {Γ : List (Option Dat)} {ta tc te tl tv tn : TE} {tt tu : TT} {tA : TA} {P R : Dat → Prop} {d a b : Dat} {G1 G0 H0 G H G2 H2 : Hp} {σ : L2.St} {D : Ends} {tz ts tw tb : TS} {x : Addr} {vs : List (List Key × V)} {es : List (List Key × Dat)} {i : Nat}
/-- for a, b, .. in a list of rows: each turn may store into d -/
theorem q_forLD {us : List Dat} {rows : Dat → List Dat} {js : List Nat} (h : EvX (WT x vs) K tl Γ (.lst us)) (hu : ∀ d ∈ us, d = .tup (rows d) ∧ (rows d).length = js.length) (hf : Dcts K G vs es) (S : S4 (WT x vs) K G1 G0 H0 Γ [] σ G H)
    (I : Nat → List (Option Dat) → List (List Key × Dat) → Prop) (hI0 : I 0 Γ es)
    (hs : ∀ G1 (n : Nat) d vs' es' Γ' σ' G' H', us[n]? = some d → I n Γ' es' → Dcts K G' vs' es' → S4 (WT x vs') K G1 G0 H0 (setsG Γ' js (rows d)) [] σ' G' H' →
      tb { D with nx := fun σ H => ∃ vs es Γ G, I (n + 1) Γ es ∧ Dcts K G vs es ∧ S4 (WT x vs) K G1 G0 H0 Γ [] σ G H, ct := fun σ H => ∃ vs es Γ G, I (n + 1) Γ es ∧ Dcts K G vs es ∧ S4 (WT x vs) K G1 G0 H0 Γ [] σ G H, bk := tz D } σ' H')
    (hd : ∀ vs' es' Γ' σ' G' H', I us.length Γ' es' → Dcts K G' vs' es' → S4 (WT x vs') K G1 G0 H0 Γ' [] σ' G' H' → tz D σ' H') : tSeq (tFor (iList K tl) (gTup K js.length (gNames js)) tb) tz D σ H :=
  h σ G H S.env S.ok _ fun v d G2 H2 s e r => by
    subst e
    obtain ⟨a, xs, rfl, hx, r⟩ := r.lst_inv
    have S2 := S.step s
    have hl := r.length
    refine ⟨a, rfl, ⟨xs, ex_l S2.ok.ex hx⟩, for_list (fun n σ H => ∃ vs es Γ G, I n Γ es ∧ Dcts K G vs es ∧ S4 (WT x vs) K G2 G0 H0 Γ [] σ G H) ⟨vs, es, Γ, G2, hI0, hf.mono s.gg, S2.here⟩ (fun n σ' H' _ ⟨vs', es', Γ', G', _, _, S'⟩ => ex_l (S'.fr.trans S'.ok.ex) hx) (fun n y σ' H' hi ⟨vs', es', Γ', G', hI, hf', S'⟩ => ?_) (fun σ' H' ⟨vs', es', Γ', G', hI, hf', S'⟩ => hd vs' es' Γ' σ' G' H' (by rw [← hl]; exact hI) hf' (S'.base S2.fr))⟩
    obtain ⟨d, hd', rd⟩ := r.getV hi
    obtain ⟨e, hn⟩ := hu d (List.mem_of_getElem? hd')
    have rd := rd.mono S'.fr
    rw [e] at rd
    exact t_names rd hn rfl S' fun σ2 S3 => hs G2 n d vs' es' Γ' σ2 G' H' hd' hI hf' S3
end
section
variable {W : Wd} {K : PySem.W.Frag} {Γ : List (Option Dat)} {ta tb tc te tl tv tn : TE} {tt tu : TT} {tA : TA} {P R : Dat → Prop} {d : Dat} {G1 G0 H0 G H G2 H2 : Hp} {O : List (Addr × List Dat)} {σ : L2.St} {D : Ends} {tz ts tw : TS} {C CE : Addr}
/-- [x for x in ns if p(x)], over a tuple -/
theorem n_lcFT {j : Nat} {ns : List Int} {p : Int → Bool} (h : EvX W K tl Γ (.tup (dI ns))) (hl : ns.length < 100000) (ht : ∀ x, EvBX W K tt ((wipeG Γ [j]).set j (some (.int x))) (p x)) (he : ∀ x, EvX W K te ((wipeG Γ [j]).set j (some (.int x))) (.int x)) :
    EvN W K (tLc (iTup K tl) (gName j) tt te [j]) Γ (· = dI (ns.filter p)) :=
  n_lcT (fun i ds => ds = dI ((ns.take i).filter p)) h rfl (fun i d hd => by
    rw [List.getElem?_map] at hd
    cases e : ns[i]? with
    | none =>
      rw [e] at hd
      cases hd
    | some x =>
      rw [e] at hd
      have ed : Dat.int x = d := Option.some.inj hd
      subst ed
      intro ds e2
      refine ⟨by
        rw [e2, List.length_map]
        have := (List.filter_sublist (p := p) (l := ns.take i)).length_le
        rw [List.length_take] at this
        omega, _, ht x, fun e3 => (he x).imp fun d ed => ?_, fun e3 => ?_⟩
      · rw [e2, ed, List.take_succ, e]
        simp [List.filter_append, ← e3]
      · rw [e2, List.take_succ, e]
        simp [List.filter_append, ← e3]) fun ds e => by
    rw [List.length_map, List.take_length] at e
    exact e
end
end Ly

set_option maxHeartbeats 4000000
/-! # a new own list that is told by an own list; tuple + tuple by what they are -/
namespace Ly
open PySem L2 PySem.Spec PyProof.Rows
section
variable {W : Wd} {K : PySem.W.Frag} {Γ : List (Option Dat)} {ta tb tc te tl tv tn : TE} {tt tu : TT} {tA : TA} {P R : Dat → Prop} {d : Dat} {G1 G0 H0 G H G2 H2 : Hp} {O : List (Addr × List Dat)} {σ : L2.St} {D : Ends} {tz ts tw : TS}
end
end Ly

set_option maxHeartbeats 4000000
/-! # reversed(range(n)), bit_length, >>, & 1 -/
namespace Ly
open PySem L2 PySem.Spec PyProof.Rows
section
variable {W : Wd} {K : PySem.W.Frag} {Γ : List (Option Dat)} {ta tb tc te tl tv tn : TE} {tt tu : TT} {tA : TA} {P R : Dat → Prop} {d : Dat} {G1 G0 H0 G H G2 H2 : Hp} {O : List (Addr × List Dat)} {σ : L2.St} {D : Ends} {tz ts tw : TS}
abbrev rShrN : R2 := fun x y H Q => ∃ (i : Int) (k : Nat), x = .int i ∧ y = .int (k : Int) ∧ Q (.int (i / 2 ^ k)) H
abbrev rOdd : R2 := fun x y H Q => ∃ n : Nat, x = .int (n : Int) ∧ y = .int 1 ∧ Q (.int ((n % 2 : Nat) : Int)) H
theorem v_shrN {i : Int} {k : Nat} (ha : EvX W K ta Γ (.int i)) (hb : EvX W K tb Γ (.int (k : Int))) : EvX W K (tOp rShrN ta tb) Γ (.int (i / 2 ^ k)) := v_opx ha hb fun G H x y kk rx ry Q q => by
  cases rx
  cases ry
  exact ⟨i, k, rfl, rfl, q.here kk (.int _) rfl⟩
theorem v_odd {n : Nat} (ha : EvX W K ta Γ (.int (n : Int))) (hb : EvX W K tb Γ (.int 1)) : EvX W K (tOp rOdd ta tb) Γ (.int ((n % 2 : Nat) : Int)) := v_opx ha hb fun G H x y kk rx ry Q q => by
  cases rx
  cases ry
  exact ⟨n, rfl, rfl, q.here kk (.int _) rfl⟩
theorem v_bits {i : Int} (ha : EvX W K ta Γ (.int i)) : EvX W K (tBits ta) Γ (.int (Builtin.Int.intBits i : Nat)) := fun σ G H n k Q q =>
  ha σ G H n k _ fun v e G2 H2 s ee r => by
    subst ee
    cases r
    exact ⟨i, rfl, (q.step s).here (s.ok k) (.int _) rfl⟩
theorem b_truI {i : Int} (h : EvX W K ta Γ (.int i)) : EvBX W K (fun σ H Q => ta σ H fun x H' => ∃ k, TruV K x H' k ∧ Q k H') Γ (i != 0) := fun σ G H n k Q q => h σ G H n k _ fun v d G2 H2 s e r => by
  subst e
  cases r
  exact ⟨i != 0, rfl, q _ G2 H2 s rfl⟩
/-- for j in reversed(range(n)) -/
theorem g_forRev {n : Int} {j : Nat} {tb : TS} (h : EvX W K ta Γ (.int n)) (hn : 0 ≤ n ∧ n ≤ 100000) (S : S4 W K G1 G0 H0 Γ O σ G H) (I : Nat → List (Option Dat) → List (Addr × List Dat) → Prop) (h0 : I 0 Γ O)
    (hs : ∀ (i : Nat) Γ' O' σ' G' H', (i : Int) < n → I i Γ' O' → S4 W K G1 G0 H0 (Γ'.set j (some (.int (n - 1 - (i : Int))))) O' σ' G' H' → tb { D with nx := Word W K G1 G0 H0 (I (i + 1)), ct := Word W K G1 G0 H0 (I (i + 1)), bk := D.nx } σ' H')
    (hd : ∀ Γ' O' σ' G' H', I n.toNat Γ' O' → S4 W K G1 G0 H0 Γ' O' σ' G' H' → D.nx σ' H') : tFor (iRevR (tRg1 ta)) (gName j) tb D σ H :=
  h σ G H S.env S.ok _ fun v e G2 H2 s ee r => by
    subst ee
    cases r
    have e2 : (n - 0).toNat = n.toNat := by omega
    have e3 : (n.toNat : Int) = n := Int.toNat_of_nonneg hn.1
    refine ⟨n, rfl, by omega, by omega, by omega, by omega, ?_⟩
    rw [e2]
    refine for_rangeC (fun i σ H => Word W K G1 G0 H0 (I i) σ H) ⟨Γ, O, G2, h0, S.step s⟩ (fun i σ' H' hlt ⟨Γ', O', G', hI, S'⟩ => ?_) (fun σ' H' ⟨Γ', O', G', hI, S'⟩ => hd Γ' O' σ' G' H' hI S')
    have e4 : (0 : Int) + (n.toNat : Int) - 1 + (i : Int) * (-1) = n - 1 - (i : Int) := by omega
    rw [e4]
    exact hs i Γ' O' _ G' H' (by omega) hI (S'.set (.int _))
theorem q_forRev {n : Int} {j : Nat} {tb : TS} (h : EvX W K ta Γ (.int n)) (hn : 0 ≤ n ∧ n ≤ 100000) (S : S4 W K G1 G0 H0 Γ O σ G H) (I : Nat → List (Option Dat) → List (Addr × List Dat) → Prop) (h0 : I 0 Γ O)
    (hs : ∀ (i : Nat) Γ' O' σ' G' H', (i : Int) < n → I i Γ' O' → S4 W K G1 G0 H0 (Γ'.set j (some (.int (n - 1 - (i : Int))))) O' σ' G' H' → tb { D with nx := Word W K G1 G0 H0 (I (i + 1)), ct := Word W K G1 G0 H0 (I (i + 1)), bk := tz D } σ' H')
    (hd : ∀ Γ' O' σ' G' H', I n.toNat Γ' O' → S4 W K G1 G0 H0 Γ' O' σ' G' H' → tz D σ' H') : tSeq (tFor (iRevR (tRg1 ta)) (gName j) tb) tz D σ H := g_forRev (D := { D with nx := tz D }) h hn S I h0 hs hd
end
end Ly

set_option maxHeartbeats 4000000
/-! # machines with two symbols by their numbers -/
namespace Tu
open PySem L2 Ly TS
/-! ## digits -/
def numC (B : Int) : List Int → Int
  | [] => 0
  | x :: r => x + B * numC B r
def DigB (B : Int) (ds : List Int) : Prop := ∀ x ∈ ds, 0 ≤ x ∧ x < B
/-! ## entries -/
def Bs (st : Int) : Int := 6 * st + 1
def entD : Dat → Int
  | .tup [.int w, .int m, .int f] => 1 + 3 * (2 * f + w) + m + 1
  | _ => 0
def qOf (p : Nat) : Int := ((p / 2 : Nat) : Int)
def sOf (p : Nat) : Int := ((p % 2 : Nat) : Int)
def ent (rows : List (List Int)) (p : Nat) : Int := entD (deedD rows (qOf p) (sOf p))
def dig (rows : List (List Int)) (n : Nat) : List Int := (List.range n).map (ent rows)
def idx (st : Nat) (rows : List (List Int)) : Int := numC (Bs st) (dig rows (2 * st))
/-- the rules in the order of their places -/
def ordR (rows : List (List Int)) (n : Nat) : List (List Int) := (List.range n).filterMap fun p => ruleOf rows (qOf p) (sOf p)
theorem key_inj {p p2 : Nat} (h : [qOf p, sOf p] = [qOf p2, sOf p2]) : p = p2 := by
  simp [qOf, sOf] at h
  omega
/-! ## the index tells the machine -/
end Tu

set_option maxHeartbeats 4000000
/-! # the machine of an index -/
namespace Tu
open PySem L2 Ly TS
def digI (B ix : Int) (p : Nat) : Int := ix / B ^ p % B
def decRule (p : Nat) (e : Int) : List Int := [qOf p, sOf p, (e - 1) / 3 % 2, (e - 1) % 3 - 1, (e - 1) / 6]
def decE (p : Nat) (e : Int) : Option (List Int) := if e = 0 then none else some (decRule p e)
def decR (B ix : Int) (n : Nat) : List (List Int) := (List.range n).filterMap fun p => decE p (digI B ix p)
theorem dec_succ (B ix : Int) (n : Nat) : decR B ix (n + 1) = decR B ix n ++ (decE n (digI B ix n)).toList := by
  unfold decR
  rw [List.range_succ, List.filterMap_append]
  cases h : decE n (digI B ix n) <;> simp [h]
theorem digI_bd {B ix : Int} (hB : 0 < B) (p : Nat) : 0 ≤ digI B ix p ∧ digI B ix p < B := ⟨Int.emod_nonneg _ (by omega), Int.emod_lt_of_pos _ hB⟩
theorem div_pow {B ix : Int} (hB : 0 < B) (p : Nat) : ix / B ^ p / B = ix / B ^ (p + 1) := by
  rw [Int.ediv_ediv_of_nonneg (Int.le_of_lt (Int.pow_pos hB)), Int.pow_succ]
theorem dec_mem {B ix : Int} {n : Nat} {r : List Int} (h : r ∈ decR B ix n) : ∃ p, p < n ∧ digI B ix p ≠ 0 ∧ r = decRule p (digI B ix p) := by
  unfold decR at h
  rw [List.mem_filterMap] at h
  obtain ⟨p, hp, e⟩ := h
  unfold decE at e
  split at e
  · cases e
  · rename_i h0
    exact ⟨p, List.mem_range.mp hp, h0, (Option.some.inj e).symm⟩
theorem dec_good {st : Nat} {ix : Int} (hs : 1 ≤ st) : ∀ r ∈ decR (Bs st) ix (2 * st), GoodR st 2 r := fun r hr => by
  obtain ⟨p, hp, h0, rfl⟩ := dec_mem hr
  have hB : 0 < Bs st := by unfold Bs; omega
  obtain ⟨e0, e1⟩ := digI_bd (ix := ix) hB p
  generalize digI (Bs st) ix p = e at *
  unfold Bs at e1
  refine ⟨qOf p, sOf p, _, _, _, rfl, ?_, ?_, by omega, by omega, by omega⟩
  · unfold qOf; omega
  · unfold sOf; omega
theorem dec_len (B ix : Int) : ∀ n : Nat, (decR B ix n).length ≤ n
  | 0 => Nat.le_refl _
  | n + 1 => by
    have := dec_len B ix n
    rw [dec_succ, List.length_append]
    cases decE n (digI B ix n) <;> simp <;> omega
theorem dec_nd (B ix : Int) : ∀ n : Nat, ((decR B ix n).map (·.take 2)).Nodup
  | 0 => List.nodup_nil
  | n + 1 => by
    rw [dec_succ, List.map_append, List.nodup_append]
    refine ⟨dec_nd B ix n, ?_, fun a ha b hb e => ?_⟩
    · cases decE n (digI B ix n) <;> simp
    · obtain ⟨r, hr, rfl⟩ := List.mem_map.mp ha
      obtain ⟨x, hx, rfl⟩ := List.mem_map.mp hb
      obtain ⟨p, hp, _, rfl⟩ := dec_mem hr
      have hx : decE n (digI B ix n) = some x := by simpa using hx
      unfold decE at hx
      split at hx
      · cases hx
      · cases hx
        have := key_inj (show [qOf p, sOf p] = [qOf n, sOf n] from e)
        omega
theorem dec_ok {st : Nat} {ix : Int} (hs : 1 ≤ st) (h6 : st ≤ 6) : TOk st 2 (decR (Bs st) ix (2 * st)) := ⟨by omega, by omega, fun r hr => goodB_iff.mpr (dec_good hs r hr), dec_nd _ _ _⟩
/-- they are in order -/
theorem dec_rk {st : Nat} {ix : Int} (hs : 1 ≤ st) (h6 : st ≤ 6) {p p2 : Nat} (hp : p < p2) (h2 : p2 < 2 * st) : rkS 20000 (decRule p (digI (Bs st) ix p)) ≤ rkS 20000 (decRule p2 (digI (Bs st) ix p2)) := by
  have hB : 0 < Bs st := by unfold Bs; omega
  have bd : ∀ q, q < 2 * st → ∀ m ∈ (decRule q (digI (Bs st) ix q)).tail, -20000 ≤ m ∧ m ≤ 20000 := fun q hq m hm => by
    obtain ⟨e0, e1⟩ := digI_bd (ix := ix) hB q
    generalize digI (Bs st) ix q = e at *
    unfold Bs at e1
    simp only [decRule, List.tail_cons, List.mem_cons, List.not_mem_nil, or_false] at hm
    rcases hm with rfl | rfl | rfl | rfl
    · unfold sOf; omega
    · omega
    · omega
    · omega
  have b1 := bd p (by omega)
  have b2 := bd p2 h2
  have hl : (shf 20000 (decRule p (digI (Bs st) ix p)).tail).length = (shf 20000 (decRule p2 (digI (Bs st) ix p2)).tail).length := by rw [shf, shf, List.length_map, List.length_map]; rfl
  rcases Nat.lt_or_ge (p / 2) (p2 / 2) with h | h
  · have c := code_lt (d := qOf p + 20000) (e := qOf p2 + 20000) hl (shf_bd b1) (shf_bd b2) (by unfold qOf; omega)
    exact Int.le_of_lt c
  · have e1 : qOf p = qOf p2 := by unfold qOf; omega
    have b3 : ∀ q, q < 2 * st → ∀ m ∈ (decRule q (digI (Bs st) ix q)).tail.tail, -20000 ≤ m ∧ m ≤ 20000 := fun q hq m hm => bd q hq m (List.mem_of_mem_tail hm)
    have hl2 : (shf 20000 (decRule p (digI (Bs st) ix p)).tail.tail).length = (shf 20000 (decRule p2 (digI (Bs st) ix p2)).tail.tail).length := by rw [shf, shf, List.length_map, List.length_map]; rfl
    have c := code_lt (d := sOf p + 20000) (e := sOf p2 + 20000) hl2 (shf_bd (b3 p (by omega))) (shf_bd (b3 p2 h2)) (by unfold sOf; omega)
    refine Int.le_of_lt ?_
    have c2 := (code_same (d := qOf p + 20000) hl).mpr c
    show rkS 20000 (qOf p :: _) < rkS 20000 (qOf p2 :: _)
    rw [← e1]
    exact c2
theorem dec_sorted {st : Nat} {ix : Int} (hs : 1 ≤ st) (h6 : st ≤ 6) : ∀ n : Nat, n ≤ 2 * st → (decR (Bs st) ix n).Pairwise fun a b => rkS 20000 a ≤ rkS 20000 b
  | 0, _ => List.Pairwise.nil
  | n + 1, hn => by
    rw [dec_succ, List.pairwise_append]
    refine ⟨dec_sorted hs h6 n (by omega), ?_, fun a ha b hb => ?_⟩
    · cases decE n (digI (Bs st) ix n) <;> simp
    · obtain ⟨p, hp, _, rfl⟩ := dec_mem ha
      have hx : decE n (digI (Bs st) ix n) = some b := by simpa using hb
      unfold decE at hx
      split at hx
      · cases hx
      · cases hx
        exact dec_rk hs h6 hp (by omega)
/-! ## and the index of that machine -/
/-! ## the index as a sum over the rules -/
def wOf (B : Int) : List Int → Int
  | [q, s, w, m, f] => B ^ (2 * q + s).toNat * (1 + 3 * (2 * f + w) + m + 1)
  | _ => 0
def wsum (B : Int) (rows : List (List Int)) : Int := (rows.map (wOf B)).sum
end Tu

set_option maxHeartbeats 4000000
/-! # defs that may raise an error without a field -/
namespace Ly
open PySem L2 PySem.Spec PyProof.Rows
theorem ps_raiseEN {X : Cx} {W : WX} {C : Addr} {x m : Str} {j : Nat} {p p2 pos pos2 : Pos} (hc : X.calm = true) (tk : L2N.Takes X W) (e : ErrP X.K X.mg x C) (hg : Gl X x) (hdb : (x == ("__debug__" : Str)) = false := by decide) :
    PS X (.Raise (some (.Call (.Name x p) [.Constant (.str m) j p2] [] pos)) none pos2) (fun _ σ H => W (.ref C) none σ H) :=
  L2N.ps_raise hc tk (L2N.pmk_own PySem.F.excBase_ValueError e.ex e.gl e.kp (raises_own e.sub e.ty) hg hdb)
section
variable {W : Wd} {K : PySem.W.Frag} {Γ : List (Option Dat)} {ta tb tc te tl tv tn : TE} {tt tu : TT} {tA : TA} {P : Dat → Prop} {d a b e : Dat} {G1 G0 H0 G H G2 H2 : Hp} {O : List (Addr × List Dat)} {σ : L2.St} {D : Ends} {tz ts t1 t2 : TS} {Q : VK} {E : XK}
theorem out_raise {C : Addr} (q : OutG Wd0 K G0 H0 Q E (.err C none)) (S : S4 Wd0 K G0 G0 H0 Γ O σ G H) : E (.ref C) none H := q none G H S.stp (fun _ => rfl) fun f e => nomatch e
theorem out_val {v : V} (q : OutG Wd0 K G0 H0 Q E (.val P)) (S : S4 Wd0 K G0 G0 H0 Γ O σ G H) (hd : P d) (r : Rep K G v d) : Q v H := q v d G H S.stp hd r
/-- if not i <= j < f(..): .., where f may raise -/
theorem g_ifNC {i j : Int} {A : XSig} {ds : List Dat} {o : Out} (ha : EvX W K ta Γ (.int i)) (hb : EvX W K tb Γ (.int j)) (hA : EvAX W K tA Γ ds) (ho : A ds o) (S : S4 W K G1 G0 H0 Γ O σ G H)
    (k0 : ¬ i ≤ j → ∀ G2 H2, S4 W K G1 G0 H0 Γ O σ G2 H2 → t1 D σ H2)
    (kv : i ≤ j → ∀ P, o = .val P → ∃ m : Int, (∀ d, P d → d = .int m) ∧ (j < m → ∀ G2 H2, S4 W K G1 G0 H0 Γ O σ G2 H2 → t2 D σ H2) ∧ (¬ j < m → ∀ G2 H2, S4 W K G1 G0 H0 Γ O σ G2 H2 → t1 D σ H2))
    (ke : i ≤ j → ∀ C fs, o = .err C fs → ∀ d G2 H2, S4 W K G1 G0 H0 Γ O σ G2 H2 → (fs = none → d = none) → (∀ f, fs = some f → ∃ a, d = some a ∧ H2 a = some (.xd f)) → E (.ref C) d H2) :
    tIfS (tNot (tTest (tChain (rI0 fun i j => .bl (decide (i ≤ j))) (rI0 fun i j => .bl (decide (i < j))) ta tb (tCall (spX Wd0 K A) [] E tA)))) t1 t2 D σ H := by
  refine ha σ G H S.env S.ok _ fun vx dx G2 H2 s2 ex rx => ?_
  subst ex
  have S := S.step s2
  refine hb σ G2 H2 S.env S.ok _ fun vy dy G3 H3 s3 ey ry => ?_
  subst ey
  have S := S.step s3
  refine r_le (W := W) (K := K) G3 H3 vx vy S.ok (rx.mono s3.gg) ry _ fun v4 d4 G4 H4 s4 e4 r4 => ?_
  subst e4
  cases r4
  have S := S.step s4
  refine ⟨_, rfl, ?_⟩
  by_cases h : i ≤ j
  · rw [decide_eq_true h, if_pos rfl]
    refine x_callP hA ho S (fun P eP v d G5 H5 S5 pd rd => ?_) (ke h)
    obtain ⟨m, hm, k1, k2⟩ := kv h P eP
    have hd := hm d pd
    subst hd
    have st := S5
    refine r_lt (W := W) (K := K) (i := j) (j := m) G5 H5 vy v S5.ok ?_ rd _ fun v6 d6 G6 H6 s6 e6 r6 => ?_
    · cases ry
      exact .int _
    · subst e6
      cases r6
      have S6 := S5.step s6
      refine ⟨_, rfl, ?_⟩
      by_cases h2 : j < m
      · rw [decide_eq_true h2]
        exact k1 h2 _ _ S6
      · rw [decide_eq_false h2]
        exact k2 h2 _ _ S6
  · rw [decide_eq_false h, if_neg Bool.false_ne_true]
    exact ⟨_, rfl, k0 h _ _ S⟩
/-- a call as a statement, whose error passes on -/
theorem q_dropP {A : XSig} {ds : List Dat} {o : Out} (h : EvAX W K tA Γ ds) (ha : A ds o) (S : S4 W K G1 G0 H0 Γ O σ G H) (kv : ∀ P, o = .val P → ∀ G2 H2, S4 W K G1 G0 H0 Γ O σ G2 H2 → tz D σ H2)
    (ke : ∀ C fs, o = .err C fs → ∀ d G2 H2, S4 W K G1 G0 H0 Γ O σ G2 H2 → (fs = none → d = none) → (∀ f, fs = some f → ∃ a, d = some a ∧ H2 a = some (.xd f)) → E (.ref C) d H2) :
    tSeq (tDrop (tCall (spX Wd0 K A) [] E tA)) tz D σ H := x_callP h ha S (fun P e v d G2 H2 S2 _ _ => kv P e G2 H2 S2) ke
theorem q_dropS {A : XSig} {EE : L2.St → XK} {ds : List Dat} {o : Out} (h : EvAX W K tA Γ ds) (ha : A ds o) (S : S4 W K G1 G0 H0 Γ O σ G H) (kv : ∀ P, o = .val P → ∀ G2 H2, S4 W K G1 G0 H0 Γ O σ G2 H2 → D.nx σ H2)
    (ke : ∀ C fs, o = .err C fs → ∀ d G2 H2, S4 W K G1 G0 H0 Γ O σ G2 H2 → (fs = none → d = none) → (∀ f, fs = some f → ∃ a, d = some a ∧ H2 a = some (.xd f)) → EE σ (.ref C) d H2) :
    tDrop (tCallS (spX Wd0 K A) EE tA) D σ H := x_callS h ha S (fun P e v d G2 H2 S2 _ _ => kv P e G2 H2 S2) ke
end
end Ly

set_option maxHeartbeats 4000000
/-! # tuples of the module; isinstance of another class -/
namespace Ly
open PySem L2 PySem.Spec PyProof.Rows
section
variable {W : Wd} {K : PySem.W.Frag} {Γ : List (Option Dat)} {ta : TE}
/-- isinstance(x, C2), x of the class C -/
theorem v_isCls {C C2 f : Addr} {b : Bool} {fsd : List (Str × Dat)} (q : ClsQ K C f) (hk : PySem.W.kitOne K (.ref C) (.ref C2) = some b) (h : EvX W K ta Γ (.obj C fsd)) : EvX W K (tCB (rIsi K) (tCons ta (tCons (tC (.ref C2)) tNil))) Γ (.bl b) := fun σ G H n k Q qq =>
  h σ G H n k _ fun v e G2 H2 s ee r => by
    subst ee
    have k2 := s.ok k
    cases r with
    | @obj a _ dx vs _ hg fl =>
      exact ⟨.ref a, .ref C2, .ref C, .ref C2, b, rfl, .own C2, .base (.ins (k2.ex _ _ hg) q.cls q.ha q.hn q.ht q.hm), hk, (qq.step s).here k2 (.bl _) rfl⟩
end
section
variable {W : Wd} {K : PySem.W.Frag} {Γ : List (Option Dat)} {te : TE} {G1 G0 H0 G H : Hp} {O : List (Addr × List Dat)} {σ : L2.St} {D : Ends} {tz : TS}
end
end Ly

set_option maxHeartbeats 4000000
/-! # an __init__ that may raise, the heap told where it does -/
namespace Ly
open PySem L2 PySem.Spec PyProof.Rows
def spInitR (K : PySem.W.Frag) (C CE : Addr) (A : InitQ) : Sp := fun vs H Q E => ∃ G x dx ds vs' b F, vs = .ref x :: vs' ∧ Ok (WI x C dx []) G H ∧ Reps K G vs' ds ∧ A ds b F ∧ (b = false → ∀ G2 H2 fs, Stp (WI x C dx fs) G H G2 H2 → E (.ref CE) none H2) ∧
  (b = true → ∀ fsd, F fsd → ∀ G2 H2 fs, Stp (WI x C dx fs) G H G2 H2 → Flds K G2 fs fsd → Q .non H2)
section
variable {W : Wd} {K : PySem.W.Frag} {Γ : List (Option Dat)} {ta tb : TE} {tA : TA} {G1 G0 H0 G H G2 H2 : Hp} {O : List (Addr × List Dat)} {σ : L2.St} {D : Ends} {C CE x dx : Addr} {fs : List (Str × V)}
end
end Ly

set_option maxHeartbeats 4000000
/-! # d.setdefault(k, x) with tuples as keys; dicts with ints as keys, as data -/
namespace L2
open PySem PySem.Spec PyProof.Rows
section
variable {X : Cx} {pins : List (Addr × Obj)} {σ : St} {H : Hp} {s : Shared} {a b : Addr} {k : List Key} {u r : Value} {d : V} {A : Around} {E : Value → Shared → Prop}
theorem d_setdT {kvs : List (List Key × V)} {Q : Value → Shared → Prop} (hu : A.units + 1 < cLine) (I : Inv X pins σ H s) (e : H a = some (.dT kvs)) (eb : H b = some (.tup (k.map kV))) (rv : RelV d r) (l : kvs.length < sizeLine)
    (h1 : ∀ v, valV kvs k = some v → ∀ (w' : Value) (s' : Shared), Inv X pins σ H s' → RelV v w' → Q w' s') (h2 : valV kvs k = none → ∀ (w' : Value) (s' : Shared), Inv X pins σ (upd H a (.dT (putK kvs k d))) s' → RelV d w' → Q w' s') :
    wpAny (model X.prog X.w) A (call (.builtin "dict.setdefault") [.ref a, .ref b, r]) Q E s := by
  obtain ⟨z, hd, xs, rel, dd⟩ := dt_of I.hok e
  have hz : xs.length ≤ sizeLine := by rw [← Paired.length rel]; exact z
  have hl : (putK kvs k d).length ≤ sizeLine := by have := length_putK kvs k d; omega
  have q := rel.val k
  refine call_setdefault_heap (hsz := hz) (tupleKind_room_in1 hu) (key_of I.hok eb) hd dd (fun p hp => ?_) fun hn h' dd' hs => ?_
  · rw [hp] at q
    cases q0 : valV kvs k with
    | none =>
      rw [q0] at q
      exact (show False from q).elim
    | some v0 =>
      rw [q0] at q
      exact h1 v0 q0 _ _ (I.tok _) q
  · rw [hn] at q
    cases q0 : valV kvs k with
    | some v0 =>
      rw [q0] at q
      exact (show False from q).elim
    | none =>
      refine h2 q0 _ _ ?_ rv
      obtain ⟨o, es, ep, hq, h2', h3, h4, _, h5⟩ := dd'
      refine d_write I (by rw [e]; exact True.intro) hs ⟨o, hq⟩ ⟨hl, hd, _, (rel.put k eb rv).keeps fun c ys ec => ?_, o, es, ep, hq, h2', h3, h4, h5⟩
      rw [upd_ne (ne_of ec e (fun z => nomatch z))]
      exact ec
end
def tDSetT (td ty tx : TE) : TE := fun σ H Q => td σ H fun x H1 => ∃ a, x = .ref a ∧ IsD H1 a ∧ ty σ H1 fun y H2 => tx σ H2 fun z H3 => ∃ (kvs : List (List Key × V)) (k : List Key) (b : Addr), H3 a = some (.dT kvs) ∧ y = .ref b ∧ H3 b = some (.tup (k.map kV)) ∧ kvs.length < sizeLine ∧
  (∀ v, valV kvs k = some v → Q v H3) ∧ (valV kvs k = none → Q z (upd H3 a (.dT (putK kvs k z))))
section
variable {X : Cx} {o e f : Expr} {apos cpos : Pos} {td ty tx : TE}
theorem pe_dsetT (hu : X.A.units + 1 < cLine) (ho : PE X o td) (he : PE X e ty) (hf : PE X f tx) (m : M2 X o "setdefault" apos e f cpos) : PE X (.Call (.Attribute o "setdefault" apos) [e, f] [] cpos) (tDSetT td ty tx) := by
  refine ⟨fun pins s σ H Q I h => ?_⟩
  refine wpAny_Call_method m.base m.few m.line PySem.F.plainAttrs_dict PySem.F.slot_dict_setdefault PySem.F.type_dict_setdefault (thn (ho.run pins s σ H _ I h) fun u s1 ⟨x, H1, I1, rx, a, ex, d, q1⟩ => ?_)
  subst ex
  obtain rfl : u = Value.ref a := rx
  obtain ⟨t1, t2, _⟩ := isD_at I1 d
  refine ⟨t1, t2, ?_⟩
  rw [m.trees]
  refine Calls.callWith_builtin rfl (Calls.evalArgs_plain (Calls.spliced_cons (thn (he.run pins s1 σ H1 _ I1 q1) fun iv s2 ⟨y, H2, I2, ry, q2⟩ =>
    Calls.spliced_cons (thn (hf.run pins s2 σ H2 _ I2 q2) fun fv s3 ⟨z, H3, I3, rz, kvs, k, b, ea, ey, eb, hl, q3, q4⟩ => Calls.spliced_nil ?_))))
  subst ey
  cases (show iv = Value.ref b from ry)
  exact d_setdT hu I3 ea eb rz hl (fun v hv w' s4 I4 rw' => ⟨v, _, I4, rw', q3 v hv⟩) fun hn w' s4 I4 rw' => ⟨z, _, I4, rw', q4 hn⟩
end
end L2

set_option maxHeartbeats 4000000
/-! # an object in the making with private parts: dicts and lists that its methods fill -/
namespace Ly
open PySem L2 PySem.Spec PyProof.Rows
def WM (x C dx : Addr) (fs : List (Str × V)) (ps : List (Addr × HO)) : Wd where
  m := fun a => a = x ∨ a ∈ ps.map Prod.fst
  I := fun H => (x :: ps.map Prod.fst).Nodup ∧ H x = some (.ins C dx fs) ∧ ∀ p ∈ ps, H p.1 = some p.2
  loc := fun h e => ⟨h.1, by rw [e x (.inl rfl)]; exact h.2.1, fun p hp => by rw [e p.1 (.inr (List.mem_map.mpr ⟨p, hp, rfl⟩))]; exact h.2.2 p hp⟩
  tr := fun h hm => by
    rcases hm with rfl | hm
    · exact ⟨_, h.2.1⟩
    · obtain ⟨p, hp, rfl⟩ := List.mem_map.mp hm
      exact ⟨_, h.2.2 p hp⟩
def setP (ps : List (Addr × HO)) (a : Addr) (o : HO) : List (Addr × HO) := ps.map fun p => if p.1 = a then (p.1, o) else p
def addP (G : Hp) (ps : List (Addr × HO)) : Hp := fun a => match ps.find? (fun p => decide (p.1 = a)) with
  | some p => some p.2
  | none => G a
section
variable {K : PySem.W.Frag} {Γ : List (Option Dat)} {G1 G0 H0 G H : Hp} {σ : L2.St} {x C dx : Addr} {fs : List (Str × V)} {ps : List (Addr × HO)}
theorem S4.free (S : S4 (WM x C dx fs ps) K G1 G0 H0 Γ [] σ G H) {p : Addr} (hp : H p = none) : H0 p = none ∧ p ≠ x ∧ p ∉ ps.map Prod.fst ∧ G p = none := by
  obtain ⟨_, hx, hps⟩ := S.ok.inv
  have h1 : p ≠ x := fun e => by rw [e, hx] at hp; cases hp
  have h2 : p ∉ ps.map Prod.fst := fun h => by
    obtain ⟨q, hq, e⟩ := List.mem_map.mp h
    rw [← e, hps q hq] at hp
    cases hp
  refine ⟨?_, h1, h2, ?_⟩
  · cases e : H0 p with
    | none => rfl
    | some u =>
      have := S.stp.hh p u (fun z => by rcases z with z | z; exact h1 z; exact h2 z) e
      rw [this] at hp
      cases hp
  · cases e : G p with
    | none => rfl
    | some u =>
      rw [S.ok.ex p u e] at hp
      cases hp
theorem put_new {κ : Type} [DecidableEq κ] {kvs : List (κ × V)} {k : κ} {v : V} (h : valV kvs k = none) : putK kvs k v = kvs ++ [(k, v)] := by
  unfold putK
  rw [if_neg]
  intro h2
  rw [List.any_eq_true] at h2
  obtain ⟨e, he, e2⟩ := h2
  unfold valV at h
  rw [Option.map_eq_none_iff, List.find?_eq_none] at h
  exact h e he e2
end
end Ly

set_option maxHeartbeats 4000000
/-! enumerate over a tuple -/
namespace PySem
open Sem (wp)
open AutoSeq1 (wpAny_loadPart')
section
variable {prog : Program} {w : World} {A : Around} {E : Value → Shared → Prop} {s : Shared}
end
end PySem
namespace L2
open PySem PySem.Spec PyProof.Rows
/-- the tuple at a, each item in a new pair with its number -/
def IteT (K : PySem.W.Frag) (a : Addr) : It :=
  ⟨fun i H => ∃ (xs : List V) (x : V), SqT K H a xs ∧ xs[i]? = some x, fun i H v H' => ∃ T x, v = .ref T ∧ H T = none ∧ H' = upd H T (.tup [.int (i : Nat), x]) ∧ ∀ xs, SqT K H a xs → xs[i]? = some x, fun i H => ∃ xs : List V, SqT K H a xs ∧ xs.length ≤ i⟩
def iEnumT (K : PySem.W.Frag) (ta : TA) : TI := fun σ H R => ta σ H fun vs H1 => ∃ a xs, vs = [.ref a] ∧ SqT K H1 a xs ∧ R (IteT K a) H1
end L2

set_option maxHeartbeats 4000000
/-! # a tree of left sides -/
namespace Tri
def lk {α : Type} [DecidableEq α] (kv : List (α × Int)) (k : α) : Option Int := (kv.find? fun p => decide (p.1 = k)).map (·.2)
theorem lk_app {α : Type} [DecidableEq α] (kv : List (α × Int)) (k k2 : α) (v : Int) : lk (kv ++ [(k, v)]) k2 = match lk kv k2 with | some x => some x | none => if k = k2 then some v else none := by
  unfold lk
  rw [List.find?_append]
  cases kv.find? (fun p => decide (p.1 = k2)) with
  | some p => rfl
  | none =>
    by_cases h : k = k2
    · simp [h]
    · simp [h]
structure T where
  nn : List (List Int × Int)
  en : List (Int × Int)
  ms : List Int
def T0 : T := ⟨[], [], [0]⟩
/-- one symbol of a left side: the node, the tree afterwards -/
def one (n : Int) (t : T) (node sym : Int) : T × Int := match lk t.nn [node, sym] with
  | some c => (t, c)
  | none => (⟨t.nn ++ [([node, sym], (t.ms.length : Int))], t.en, t.ms ++ [n]⟩, (t.ms.length : Int))
def endn (n : Int) (t : T) (node : Int) : T := match lk t.en node with
  | some _ => t
  | none => ⟨t.nn, t.en ++ [(node, n)], t.ms⟩
/-- how the tree stands: ls the left sides that stand in it, cur what of the next one does -/
structure Tr (ls : List (List Int)) (cur : List Int) (t : T) (ps : List (List Int)) : Prop where
  len : ps.length = t.ms.length
  zero : ps[0]? = some []
  nd : ps.Nodup
  mem : ∀ p, p ∈ ps ↔ p = [] ∨ (∃ l ∈ ls, p <+: l) ∨ p <+: cur
  nx : ∀ (i : Nat) (p : List Int) (s j : Int), ps[i]? = some p → (lk t.nn [(i : Int), s] = some j ↔ ∃ k : Nat, j = (k : Int) ∧ ps[k]? = some (p ++ [s]))
  ms : ∀ (i : Nat) (p : List Int), ps[i]? = some p → t.ms[i]? = some (((ls.findIdx? fun l => decide (p <+: l)).getD ls.length : Nat) : Int)
  en : ∀ (i : Nat) (p : List Int), ps[i]? = some p → lk t.en (i : Int) = (ls.findIdx? fun l => decide (l = p)).map fun r : Nat => (r : Int)
  far : ∀ (j : Nat) (s : Int), ps.length ≤ j → lk t.nn [(j : Int), s] = none
  farE : ∀ j : Nat, ps.length ≤ j → lk t.en (j : Int) = none
theorem Tr.start : Tr [] [] T0 [[]] := by
  refine ⟨rfl, rfl, by simp, fun p => by simp, fun i p s j h => ?_, fun i p h => ?_, fun i p h => rfl, fun _ _ _ => rfl, fun _ _ => rfl⟩
  · have hi : i = 0 := by
      cases i with
      | zero => rfl
      | succ i => simp at h
    subst hi
    have hp : p = [] := by simpa using h.symm
    subst hp
    constructor
    · intro h
      cases h
    · rintro ⟨k, rfl, h⟩
      cases k with
      | zero => simp at h
      | succ k => simp at h
  · have hi : i = 0 := by
      cases i with
      | zero => rfl
      | succ i => simp at h
    subst hi
    rfl
theorem at_inj {ps : List (List Int)} (nd : ps.Nodup) {i j : Nat} {p : List Int} (h1 : ps[i]? = some p) (h2 : ps[j]? = some p) : i = j :=
  (List.getElem?_inj (List.getElem?_eq_some_iff.mp h1).1 nd).mp (h1.trans h2.symm)
/-- one symbol more -/
theorem Tr.one {ls : List (List Int)} {cur : List Int} {t : T} {ps : List (List Int)} {i : Nat} (h : Tr ls cur t ps) (hi : ps[i]? = some cur) (s : Int) :
    ∃ (ps' : List (List Int)) (k : Nat), Tr ls (cur ++ [s]) (Tri.one (ls.length : Int) t (i : Int) s).1 ps' ∧ (Tri.one (ls.length : Int) t (i : Int) s).2 = (k : Int) ∧ ps'[k]? = some (cur ++ [s]) := by
  have old : cur <+: cur ++ [s] := List.prefix_append _ _
  have pre : ∀ p : List Int, p <+: cur ++ [s] ↔ p <+: cur ∨ p = cur ++ [s] := fun p => List.prefix_concat_iff.trans or_comm
  cases e : lk t.nn [(i : Int), s] with
  | some c =>
    obtain ⟨k, rfl, hk⟩ := (h.nx i cur s c hi).mp e
    have e1 : Tri.one (ls.length : Int) t (i : Int) s = (t, (k : Int)) := by
      unfold Tri.one
      rw [e]
    rw [e1]
    refine ⟨ps, k, ⟨h.len, h.zero, h.nd, fun p => ?_, h.nx, h.ms, h.en, h.far, h.farE⟩, rfl, hk⟩
    rw [h.mem p, pre p]
    constructor
    · rintro (a | a | a)
      · exact .inl a
      · exact .inr (.inl a)
      · exact .inr (.inr (.inl a))
    · rintro (a | a | a | a)
      · exact .inl a
      · exact .inr (.inl a)
      · exact .inr (.inr a)
      · rw [a]
        exact (h.mem _).mp (List.mem_of_getElem? hk)
  | none =>
    have hno : cur ++ [s] ∉ ps := fun hm => by
      obtain ⟨k, hk⟩ := List.getElem?_of_mem hm
      have := (h.nx i cur s (k : Int) hi).mpr ⟨k, rfl, hk⟩
      rw [e] at this
      cases this
    have hnl : ∀ l ∈ ls, ¬ cur ++ [s] <+: l := fun l hl hp => hno ((h.mem _).mpr (.inr (.inl ⟨l, hl, hp⟩)))
    have e1 : Tri.one (ls.length : Int) t (i : Int) s = (⟨t.nn ++ [([(i : Int), s], (t.ms.length : Int))], t.en, t.ms ++ [(ls.length : Int)]⟩, (t.ms.length : Int)) := by
      unfold Tri.one
      rw [e]
    rw [e1]
    have hlen : ps.length = t.ms.length := h.len
    have hilt : i < ps.length := (List.getElem?_eq_some_iff.mp hi).1
    have hat : ∀ {j : Nat} {p : List Int}, (ps ++ [cur ++ [s]])[j]? = some p → (ps[j]? = some p) ∨ (j = ps.length ∧ p = cur ++ [s]) := fun {j p} hj => by
      rcases Nat.lt_or_ge j ps.length with z | z
      · rw [List.getElem?_append_left z] at hj
        exact .inl hj
      · rw [List.getElem?_append_right z] at hj
        have : j - ps.length = 0 := by
          rcases Nat.eq_zero_or_pos (j - ps.length) with y | y
          · exact y
          · rw [List.getElem?_eq_none (by show 1 ≤ _; omega)] at hj
            cases hj
        rw [this] at hj
        exact .inr ⟨by omega, by simpa using hj.symm⟩
    refine ⟨ps ++ [cur ++ [s]], t.ms.length, ⟨by simp [hlen], ?_, ?_, fun p => ?_, fun j p s2 c hj => ?_, fun j p hj => ?_, fun j p hj => ?_, fun j s2 hj => ?_, fun j hj => ?_⟩, rfl, ?_⟩
    · rw [List.getElem?_append_left (by omega)]
      exact h.zero
    · rw [List.nodup_append]
      exact ⟨h.nd, by simp, fun a ha b hb => by
        have hb : b = cur ++ [s] := by simpa using hb
        rw [hb]
        exact fun z => hno (z ▸ ha)⟩
    · rw [List.mem_append, h.mem p, pre p]
      constructor
      · rintro ((a | a | a) | a)
        · exact .inl a
        · exact .inr (.inl a)
        · exact .inr (.inr (.inl a))
        · exact .inr (.inr (.inr (by simpa using a)))
      · rintro (a | a | a | a)
        · exact .inl (.inl a)
        · exact .inl (.inr (.inl a))
        · exact .inl (.inr (.inr a))
        · exact .inr (by simp [a])
    · show lk (t.nn ++ [([(i : Int), s], (t.ms.length : Int))]) [(j : Int), s2] = some c ↔ _
      rw [lk_app]
      rcases hat hj with hj1 | ⟨rfl, rfl⟩
      · have hjl : j < ps.length := (List.getElem?_eq_some_iff.mp hj1).1
        cases e2 : lk t.nn [(j : Int), s2] with
        | some x =>
          obtain ⟨k, rfl, hk⟩ := (h.nx j p s2 x hj1).mp e2
          constructor
          · intro z
            cases z
            exact ⟨k, rfl, by rw [List.getElem?_append_left (List.getElem?_eq_some_iff.mp hk).1]; exact hk⟩
          · rintro ⟨k2, rfl, hk2⟩
            rcases hat hk2 with hk2 | ⟨_, z⟩
            · rw [at_inj h.nd hk hk2]
            · exact absurd (List.mem_of_getElem? hk) (by rw [z]; exact hno)
        | none =>
          by_cases hq : [(i : Int), s] = [(j : Int), s2]
          · simp at hq
            obtain ⟨hij, rfl⟩ := hq
            have hij : i = j := by omega
            subst hij
            rw [hi] at hj1
            cases hj1
            rw [if_pos rfl]
            constructor
            · intro z
              cases z
              exact ⟨t.ms.length, rfl, by rw [List.getElem?_append_right (by omega), ← hlen, Nat.sub_self]; rfl⟩
            · rintro ⟨k, rfl, hk⟩
              rcases hat hk with hk | ⟨rfl, _⟩
              · exact absurd (List.mem_of_getElem? hk) hno
              · rw [hlen]
          · rw [if_neg hq]
            constructor
            · intro z
              cases z
            · rintro ⟨k, rfl, hk⟩
              rcases hat hk with hk | ⟨rfl, z⟩
              · have := (h.nx j p s2 (k : Int) hj1).mpr ⟨k, rfl, hk⟩
                rw [e2] at this
                cases this
              · obtain ⟨rfl, z2⟩ := List.append_inj' z rfl
                have hij := at_inj h.nd hi hj1
                subst hij
                simp at z2
                exact absurd (by rw [z2]) hq
      · rw [h.far ps.length s2 (Nat.le_refl _)]
        have hq : ¬ [(i : Int), s] = [((ps.length : Nat) : Int), s2] := fun z => by
          simp at z
          omega
        rw [if_neg hq]
        constructor
        · intro z
          cases z
        · rintro ⟨k, rfl, hk⟩
          have bad : cur ++ [s] <+: cur ++ [s] ++ [s2] := List.prefix_append _ _
          rcases hat hk with hk | ⟨_, z⟩
          · rcases (h.mem _).mp (List.mem_of_getElem? hk) with a | ⟨l, hl, a⟩ | a
            · simp at a
            · exact absurd (bad.trans a) (hnl l hl)
            · have := a.length_le
              simp at this
              omega
          · have := congrArg List.length z
            simp at this
    · show (t.ms ++ [(ls.length : Int)])[j]? = _
      rcases hat hj with hj | ⟨rfl, rfl⟩
      · rw [List.getElem?_append_left (by have := (List.getElem?_eq_some_iff.mp hj).1; omega)]
        exact h.ms j p hj
      · rw [List.getElem?_append_right (by omega), hlen, Nat.sub_self]
        rw [List.findIdx?_eq_none_iff.mpr fun l hl => by simpa using hnl l hl]
        rfl
    · rcases hat hj with hj | ⟨rfl, rfl⟩
      · exact h.en j p hj
      · rw [h.farE ps.length (Nat.le_refl _), List.findIdx?_eq_none_iff.mpr fun l hl => by
          simp only [decide_eq_false_iff_not]
          exact fun z => hnl l hl (by rw [z]; exact List.prefix_rfl)]
        rfl
    · show lk (t.nn ++ [([(i : Int), s], (t.ms.length : Int))]) [(j : Int), s2] = none
      rw [List.length_append, List.length_singleton] at hj
      rw [lk_app, h.far j s2 (by omega)]
      rw [if_neg fun z => by
        simp at z
        omega]
    · rw [List.length_append, List.length_singleton] at hj
      exact h.farE j (by omega)
    · rw [List.getElem?_append_right (by omega), hlen, Nat.sub_self]
      rfl
def word (n : Int) : T → Int → List Int → T × Int
  | t, node, [] => (t, node)
  | t, node, s :: w => word n (one n t node s).1 (one n t node s).2 w
theorem Tr.word {ls : List (List Int)} : ∀ (w : List Int) {cur : List Int} {t : T} {ps : List (List Int)} {i : Nat}, Tr ls cur t ps → ps[i]? = some cur →
    ∃ (ps' : List (List Int)) (k : Nat), Tr ls (cur ++ w) (Tri.word (ls.length : Int) t (i : Int) w).1 ps' ∧ (Tri.word (ls.length : Int) t (i : Int) w).2 = (k : Int) ∧ ps'[k]? = some (cur ++ w)
  | [], cur, t, ps, i, h, hi => ⟨ps, i, by rw [List.append_nil]; exact h, rfl, by rw [List.append_nil]; exact hi⟩
  | s :: w, cur, t, ps, i, h, hi => by
    obtain ⟨ps1, k1, h1, e1, hk1⟩ := h.one hi s
    obtain ⟨ps', k, h2, e2, hk⟩ := Tr.word w h1 hk1
    rw [List.append_assoc] at h2 hk
    have e3 : Tri.word (ls.length : Int) t (i : Int) (s :: w) = Tri.word (ls.length : Int) (Tri.one (ls.length : Int) t (i : Int) s).1 (k1 : Int) w := by
      show Tri.word (ls.length : Int) (Tri.one (ls.length : Int) t (i : Int) s).1 (Tri.one (ls.length : Int) t (i : Int) s).2 w = _
      rw [e1]
    rw [e3]
    exact ⟨ps', k, h2, e2, hk⟩
theorem idx_app (ls : List (List Int)) (l : List Int) (f : List Int → Bool) : (ls ++ [l]).findIdx? f = match ls.findIdx? f with | some r => some r | none => if f l = true then some ls.length else none := by
  rw [List.findIdx?_append]
  cases ls.findIdx? f with
  | some r => rfl
  | none =>
    by_cases h : f l = true
    · simp [h]
    · simp [h]
/-- the left side stands in it as a whole -/
theorem Tr.done {ls : List (List Int)} {l : List Int} {t : T} {ps : List (List Int)} {k : Nat} (h : Tr ls l t ps) (hk : ps[k]? = some l) : Tr (ls ++ [l]) [] (endn (ls.length : Int) t (k : Int)) ps := by
  have hkl : k < ps.length := (List.getElem?_eq_some_iff.mp hk).1
  have e1 : (endn (ls.length : Int) t (k : Int)).nn = t.nn ∧ (endn (ls.length : Int) t (k : Int)).ms = t.ms := by
    unfold endn
    cases lk t.en (k : Int) <;> exact ⟨rfl, rfl⟩
  have e2 : ∀ j : Int, lk (endn (ls.length : Int) t (k : Int)).en j = match lk t.en j with | some x => some x | none => if (k : Int) = j then some (ls.length : Int) else none := fun j => by
    unfold endn
    cases e : lk t.en (k : Int) with
    | none => exact lk_app t.en (k : Int) j (ls.length : Int)
    | some x =>
      show lk t.en j = _
      cases e3 : lk t.en j with
      | some y => rfl
      | none =>
        rw [if_neg]
        intro z
        rw [z, e3] at e
        cases e
  have nilp : ∀ p : List Int, p <+: [] ↔ p = [] := fun p => List.prefix_nil
  refine ⟨by rw [e1.2]; exact h.len, h.zero, h.nd, fun p => ?_, fun i p s j hi => by rw [e1.1]; exact h.nx i p s j hi, fun i p hi => ?_, fun i p hi => ?_, fun j s hj => by rw [e1.1]; exact h.far j s hj, fun j hj => ?_⟩
  · rw [h.mem p, nilp]
    constructor
    · rintro (a | ⟨m, hm, a⟩ | a)
      · exact .inl a
      · exact .inr (.inl ⟨m, List.mem_append_left _ hm, a⟩)
      · exact .inr (.inl ⟨l, by simp, a⟩)
    · rintro (a | ⟨m, hm, a⟩ | a)
      · exact .inl a
      · rcases List.mem_append.mp hm with hm | hm
        · exact .inr (.inl ⟨m, hm, a⟩)
        · have hm : m = l := by simpa using hm
          exact .inr (.inr (hm ▸ a))
      · exact .inl a
  · rw [e1.2, h.ms i p hi, idx_app]
    cases e : ls.findIdx? (fun m => decide (p <+: m)) with
    | some r => rfl
    | none =>
      have hp : p <+: l := by
        rcases (h.mem p).mp (List.mem_of_getElem? hi) with a | ⟨m, hm, a⟩ | a
        · rw [a]; exact List.nil_prefix
        · rw [List.findIdx?_eq_none_iff] at e
          exact absurd a (by simpa using e m hm)
        · exact a
      simp [hp]
  · rw [e2, h.en i p hi, idx_app]
    cases e : ls.findIdx? (fun m => decide (m = p)) with
    | some r => rfl
    | none =>
      by_cases hp : l = p
      · subst hp
        rw [at_inj h.nd hi hk]
        simp
      · have hne : ¬ (k : Int) = (i : Int) := fun z => by
          have : k = i := by omega
          subst this
          rw [hk] at hi
          exact hp (Option.some.inj hi)
        simp [hp, hne]
  · rw [e2, h.farE j hj, if_neg (by omega)]
def addL (n : Int) (t : T) (l : List Int) : T := endn n (word n t 0 l).1 (word n t 0 l).2
theorem Tr.add {ls : List (List Int)} {t : T} {ps : List (List Int)} (h : Tr ls [] t ps) (l : List Int) : ∃ ps', Tr (ls ++ [l]) [] (addL (ls.length : Int) t l) ps' := by
  obtain ⟨ps', k, h1, e, hk⟩ := Tr.word l h h.zero
  refine ⟨ps', ?_⟩
  unfold addL
  have e0 : ((0 : Nat) : Int) = 0 := rfl
  rw [e0] at h1 e
  rw [e]
  exact h1.done hk
def build : List (List Int) → Nat → T
  | _, 0 => T0
  | ls, n + 1 => addL (n : Int) (build ls n) ((ls[n]?).getD [])
theorem build_tr (ls : List (List Int)) : ∀ n, n ≤ ls.length → ∃ ps, Tr (ls.take n) [] (build ls n) ps
  | 0, _ => ⟨_, Tr.start⟩
  | n + 1, h => by
    obtain ⟨ps, hp⟩ := build_tr ls n (by omega)
    obtain ⟨ps', hp'⟩ := hp.add ((ls[n]?).getD [])
    refine ⟨ps', ?_⟩
    have e : ls.take n ++ [(ls[n]?).getD []] = ls.take (n + 1) := by
      rw [List.take_succ, List.getElem?_eq_getElem (by omega)]
      rfl
    have e2 : ((ls.take n).length : Int) = (n : Int) := by rw [List.length_take]; omega
    rw [e, e2] at hp'
    exact hp'
/-! ## looking for a left side -/
def walk (t : T) : Int → Int → List Int → Int
  | best, _, [] => best
  | best, node, s :: rem => match lk t.nn [node, s] with
    | none => best
    | some c => match t.ms[c.toNat]? with
      | none => best
      | some m => if best ≤ m then best else walk t (min best ((lk t.en c).getD best)) c rem
def Hit (ls : List (List Int)) (p rem : List Int) (r : Nat) : Prop := ∃ q, q ≠ [] ∧ q <+: rem ∧ ls[r]? = some (p ++ q)
theorem idx_some {ls : List (List Int)} {f : List Int → Bool} {r : Nat} (h : ls.findIdx? f = some r) : (∃ l, ls[r]? = some l ∧ f l = true) ∧ ∀ (s : Nat) l, ls[s]? = some l → f l = true → r ≤ s := by
  rw [List.findIdx?_eq_some_iff_getElem] at h
  obtain ⟨h1, h2, h3⟩ := h
  refine ⟨⟨_, List.getElem?_eq_getElem h1, h2⟩, fun s l hs hf => ?_⟩
  rcases Nat.lt_or_ge s r with z | z
  · have hsl := (List.getElem?_eq_some_iff.mp hs)
    have := h3 s z
    rw [hsl.2, hf] at this
    exact absurd rfl this
  · exact z
theorem walk_spec {ls : List (List Int)} {t : T} {ps : List (List Int)} (h : Tr ls [] t ps) : ∀ (rem : List Int) (i : Nat) (p : List Int) (best : Int), ps[i]? = some p →
    walk t best (i : Int) rem ≤ best ∧ (walk t best (i : Int) rem = best ∨ ∃ r : Nat, walk t best (i : Int) rem = (r : Int) ∧ Hit ls p rem r) ∧ ∀ r, Hit ls p rem r → walk t best (i : Int) rem ≤ (r : Int)
  | [], i, p, best, hi => by
    refine ⟨Int.le_refl _, .inl rfl, fun r ⟨q, hq, hp, _⟩ => ?_⟩
    exact absurd (List.prefix_nil.mp hp) hq
  | s :: rem, i, p, best, hi => by
    have tail : ∀ r, Hit ls p (s :: rem) r → ls[r]? = some (p ++ [s]) ∨ Hit ls (p ++ [s]) rem r := fun r ⟨q, hq, hp, hr⟩ => by
      obtain ⟨z, hz⟩ := hp
      cases q with
      | nil => exact absurd rfl hq
      | cons a q =>
        rw [List.cons_append] at hz
        obtain ⟨rfl, hz2⟩ := List.cons.inj hz
        cases q with
        | nil => exact .inl hr
        | cons b q2 => exact .inr ⟨b :: q2, by simp, ⟨z, hz2⟩, by rw [hr]; simp⟩
    have pre : ∀ r, Hit ls p (s :: rem) r → ∃ l, ls[r]? = some l ∧ p ++ [s] <+: l := fun r hr => by
      rcases tail r hr with a | ⟨q, _, _, a⟩
      · exact ⟨_, a, List.prefix_rfl⟩
      · exact ⟨_, a, List.prefix_append _ _⟩
    unfold walk
    cases e : lk t.nn [(i : Int), s] with
    | none =>
      refine ⟨Int.le_refl _, .inl rfl, fun r hr => ?_⟩
      obtain ⟨l, hl, hp⟩ := pre r hr
      obtain ⟨k, hk⟩ := List.getElem?_of_mem ((h.mem _).mpr (.inr (.inl ⟨l, List.mem_of_getElem? hl, hp⟩)))
      have := (h.nx i p s (k : Int) hi).mpr ⟨k, rfl, hk⟩
      rw [e] at this
      cases this
    | some c =>
      obtain ⟨k, rfl, hk⟩ := (h.nx i p s c hi).mp e
      have hm := h.ms k (p ++ [s]) hk
      obtain ⟨r0, hr0⟩ : ∃ r0, ls.findIdx? (fun l => decide (p ++ [s] <+: l)) = some r0 := by
        cases e2 : ls.findIdx? (fun l => decide (p ++ [s] <+: l)) with
        | some r0 => exact ⟨r0, rfl⟩
        | none =>
          rw [List.findIdx?_eq_none_iff] at e2
          rcases (h.mem _).mp (List.mem_of_getElem? hk) with a | ⟨l, hl, a⟩ | a
          · simp at a
          · exact absurd a (by simpa using e2 l hl)
          · have := List.prefix_nil.mp a
            simp at this
      obtain ⟨_, low⟩ := idx_some hr0
      rw [hr0] at hm
      have hm : t.ms[k]? = some (r0 : Int) := hm
      simp only [Int.toNat_natCast, hm]
      by_cases hb : best ≤ (r0 : Int)
      · rw [if_pos hb]
        refine ⟨Int.le_refl _, .inl rfl, fun r hr => ?_⟩
        obtain ⟨l, hl, hp⟩ := pre r hr
        have := low r l hl (decide_eq_true hp)
        omega
      · rw [if_neg hb]
        obtain ⟨w1, w2, w3⟩ := walk_spec h rem k (p ++ [s]) (min best ((lk t.en (k : Int)).getD best)) hk
        have he := h.en k (p ++ [s]) hk
        refine ⟨by omega, ?_, fun r hr => ?_⟩
        · rcases w2 with w2 | ⟨r, w2, q, hq, hp, hr⟩
          · cases e2 : ls.findIdx? (fun l => decide (l = p ++ [s])) with
            | none =>
              rw [e2] at he
              have he : lk t.en (k : Int) = none := he
              rw [he] at w2 ⊢
              left
              rw [w2]
              simp
            | some r1 =>
              rw [e2] at he
              have he : lk t.en (k : Int) = some (r1 : Int) := he
              obtain ⟨⟨l, hl, hl2⟩, _⟩ := idx_some e2
              have hl2 := of_decide_eq_true hl2
              rw [he] at w2 ⊢
              rw [w2]
              show min best (r1 : Int) = best ∨ _
              by_cases hle : best ≤ (r1 : Int)
              · left; omega
              · right
                exact ⟨r1, by show min best (r1 : Int) = _; omega, [s], by simp, by simp, by rw [hl, hl2]⟩
          · exact .inr ⟨r, w2, s :: q, by simp, by simpa using hp, by rw [hr]; simp⟩
        · rcases tail r hr with a | a
          · cases e2 : ls.findIdx? (fun l => decide (l = p ++ [s])) with
            | none =>
              rw [List.findIdx?_eq_none_iff] at e2
              have := e2 _ (List.mem_of_getElem? a)
              simp at this
            | some r1 =>
              obtain ⟨_, low2⟩ := idx_some e2
              have := low2 r _ a (by simp)
              rw [e2] at he
              have he : lk t.en (k : Int) = some (r1 : Int) := he
              rw [he] at w1 ⊢
              have w1 : walk t (min best ((some (r1 : Int)).getD best)) (k : Int) rem ≤ min best (r1 : Int) := w1
              omega
          · exact w3 r a
/-! ## the best rule and its first place -/
def Best (ls : List (List Int)) (conf : List Int) (i : Nat) (best place : Int) : Prop :=
  (best = (ls.length : Int) ∧ ∀ r s, s < i → ¬ Hit ls [] (conf.drop s) r) ∨
    ∃ b pl : Nat, best = (b : Int) ∧ place = (pl : Int) ∧ b < ls.length ∧ pl < i ∧ Hit ls [] (conf.drop pl) b ∧ (∀ s, s < pl → ¬ Hit ls [] (conf.drop s) b) ∧ ∀ r s, s < i → Hit ls [] (conf.drop s) r → b ≤ r
theorem hit_lt {ls : List (List Int)} {p rem : List Int} {r : Nat} (h : Hit ls p rem r) : r < ls.length := by
  obtain ⟨q, _, _, h⟩ := h
  exact (List.getElem?_eq_some_iff.mp h).1
theorem Best.zero (ls : List (List Int)) (conf : List Int) (place : Int) : Best ls conf 0 (ls.length : Int) place := .inl ⟨rfl, fun _ _ h => absurd h (by omega)⟩
theorem Best.next {ls : List (List Int)} {t : T} {ps : List (List Int)} {conf : List Int} {i : Nat} {best place : Int} (h : Tr ls [] t ps) (B : Best ls conf i best place) :
    (walk t best 0 (conf.drop i) < best → Best ls conf (i + 1) (walk t best 0 (conf.drop i)) (i : Int)) ∧ (¬ walk t best 0 (conf.drop i) < best → Best ls conf (i + 1) best place) := by
  obtain ⟨w1, w2, w3⟩ := walk_spec h (conf.drop i) 0 [] best h.zero
  have e0 : ((0 : Nat) : Int) = 0 := rfl
  rw [e0] at w1 w2 w3
  have cov : ∀ {r s : Nat}, s < i + 1 → Hit ls [] (conf.drop s) r → (s < i ∧ Hit ls [] (conf.drop s) r) ∨ (s = i ∧ Hit ls [] (conf.drop i) r) := fun {r s} hs hh => by
    rcases Nat.lt_or_ge s i with z | z
    · exact .inl ⟨z, hh⟩
    · have : s = i := by omega
      subst this
      exact .inr ⟨rfl, hh⟩
  constructor
  · intro hlt
    rcases w2 with w2 | ⟨r, w2, hr⟩
    · omega
    · rw [w2] at hlt w3 ⊢
      refine .inr ⟨r, i, rfl, rfl, hit_lt hr, Nat.lt_succ_self i, hr, fun s hs hh => ?_, fun r2 s hs hh => ?_⟩
      · rcases B with ⟨_, B2⟩ | ⟨b, pl, rfl, _, _, _, _, _, B7⟩
        · exact B2 r s hs hh
        · have := B7 r s hs hh
          omega
      · rcases cov hs hh with ⟨a, c⟩ | ⟨_, c⟩
        · rcases B with ⟨_, B2⟩ | ⟨b, pl, rfl, _, _, _, _, _, B7⟩
          · exact absurd c (B2 r2 s a)
          · have := B7 r2 s a c
            omega
        · have := w3 r2 c
          omega
  · intro hnl
    have weq : walk t best 0 (conf.drop i) = best := by omega
    rw [weq] at w3
    rcases B with ⟨B1, B2⟩ | ⟨b, pl, B1, B2, B3, B4, B5, B6, B7⟩
    · refine .inl ⟨B1, fun r s hs hh => ?_⟩
      rcases cov hs hh with ⟨a, c⟩ | ⟨_, c⟩
      · exact B2 r s a c
      · have := w3 r c
        have := hit_lt c
        omega
    · refine .inr ⟨b, pl, B1, B2, B3, by omega, B5, B6, fun r s hs hh => ?_⟩
      rcases cov hs hh with ⟨a, c⟩ | ⟨_, c⟩
      · exact B7 r s a c
      · have := w3 r c
        omega
end Tri

set_option maxHeartbeats 4000000
namespace Ly
open PySem L2 PySem.Spec PyProof.Rows
def rlD (r : List Int × List Int) : Dat := .tup [.tup (r.1.map Dat.int), .tup (r.2.map Dat.int)]
def kvN (nn : List (List Int × Int)) : List (List Key × V) := nn.map fun p => (iK p.1, V.int p.2)
def kvE (en : List (Int × Int)) : List (Key × V) := en.map fun p => ((Sum.inl p.1 : Key), V.int p.2)
def dkN (nn : List (List Int × Int)) : List (List Key × Dat) := nn.map fun p => (iK p.1, Dat.int p.2)
def dkE (en : List (Int × Int)) : List (Key × Dat) := en.map fun p => ((Sum.inl p.1 : Key), Dat.int p.2)
def lfF (t : Tri.T) : List (Str × Dat) := [(("_next_nodes" : Str), .dct (dkN t.nn)), (("_ends" : Str), .dcs (dkE t.en)), (("_makers" : Str), .lst (t.ms.map Dat.int))]
def LW (x C dx d1 d2 l : Addr) (t : Tri.T) : Wd := WM x C dx [(("_next_nodes" : Str), .ref d1), (("_ends" : Str), .ref d2), (("_makers" : Str), .ref l)] [(l, .lst (t.ms.map V.int)), (d2, .dK (kvE t.en)), (d1, .dT (kvN t.nn))]
def A_linit : InitP := fun ds F => ∃ rules : List (List Int × List Int), rules.length ≤ 100 ∧ (∀ r ∈ rules, r.1.length ≤ 100) ∧ ds = [.tup (rules.map rlD)] ∧ F = (· = lfF (Tri.build (rules.map Prod.fst) rules.length))
end Ly
namespace Tri
/-- the numbers of the nodes lie below the makers' -/
def nb (t : T) : Prop := ∀ p ∈ t.nn, p.2 < (t.ms.length : Int)
theorem one_nb {n node s : Int} {t : T} (h : nb t) : nb (one n t node s).1 := by
  unfold one
  cases e : lk t.nn [node, s] with
  | some c => exact h
  | none =>
    intro p hp
    show p.2 < ((t.ms ++ [n]).length : Int)
    rw [List.length_append, List.length_singleton]
    rcases List.mem_append.mp hp with hp | hp
    · have := h p hp
      omega
    · rw [List.mem_singleton] at hp
      subst hp
      show (t.ms.length : Int) < _
      omega
theorem one_len {n node s : Int} {t : T} : (one n t node s).1.nn.length ≤ t.nn.length + 1 ∧ (one n t node s).1.en = t.en ∧ ((one n t node s).1.ms.length + t.nn.length = t.ms.length + (one n t node s).1.nn.length) := by
  unfold one
  cases lk t.nn [node, s] with
  | some c => exact ⟨Nat.le_succ _, rfl, rfl⟩
  | none =>
    refine ⟨by simp, rfl, ?_⟩
    show (t.ms ++ [n]).length + t.nn.length = t.ms.length + (t.nn ++ [_]).length
    simp
    omega
/-- sizes -/
structure Sz (t : T) (a b : Nat) : Prop where
  nb : nb t
  nn : t.nn.length ≤ a
  en : t.en.length ≤ b
  ms : t.ms.length = t.nn.length + 1
theorem Sz.zero : Sz T0 0 0 := ⟨(fun _ h => nomatch h), Nat.le_refl _, Nat.le_refl _, rfl⟩
theorem Sz.one {t : T} {a b : Nat} {n node s : Int} (h : Sz t a b) : Sz (Tri.one n t node s).1 (a + 1) b := by
  obtain ⟨h1, h2, h3⟩ := one_len (n := n) (node := node) (s := s) (t := t)
  have q1 := h.nn
  have q2 := h.ms
  exact ⟨one_nb h.nb, by omega, by rw [h2]; exact h.en, by omega⟩
theorem Sz.endn {t : T} {a b : Nat} {n node : Int} (h : Sz t a b) : Sz (Tri.endn n t node) a (b + 1) := by
  unfold Tri.endn
  cases lk t.en node with
  | some _ => exact ⟨h.nb, h.nn, Nat.le_succ_of_le h.en, h.ms⟩
  | none => exact ⟨h.nb, h.nn, by show (t.en ++ [_]).length ≤ _; rw [List.length_append]; exact Nat.succ_le_succ h.en, h.ms⟩
theorem Sz.word {n : Int} : ∀ (w : List Int) {t : T} {a b : Nat} {node : Int}, Sz t a b → Sz (Tri.word n t node w).1 (a + w.length) b
  | [], _, _, _, _, h => h
  | s :: w, t, a, b, node, h => by
    have := Sz.word (n := n) w (node := (Tri.one n t node s).2) (h.one (n := n) (node := node) (s := s))
    rw [List.length_cons, Nat.add_comm w.length 1, ← Nat.add_assoc]
    exact this
end Tri

namespace Ly
open PySem L2 PySem.Spec PyProof.Rows
section
variable {K : PySem.W.Frag} {Γ : List (Option Dat)} {G1 G0 H0 G H : Hp} {σ : L2.St} {x C dx d1 d2 l : Addr} {fs : List (Str × V)} {ps : List (Addr × HO)} {D : Ends} {tz : TS} {f : Str} {t : Tri.T}
abbrev fsL (d1 d2 l : Addr) : List (Str × V) := [(("_next_nodes" : Str), .ref d1), (("_ends" : Str), .ref d2), (("_makers" : Str), .ref l)]
/-- what the tree's world says of the heap -/
theorem LW.says (S : S4 (LW x C dx d1 d2 l t) K G1 G0 H0 Γ [] σ G H) : [x, l, d2, d1].Nodup ∧ H x = some (.ins C dx (fsL d1 d2 l)) ∧ H l = some (.lst (t.ms.map V.int)) ∧ H d2 = some (.dK (kvE t.en)) ∧ H d1 = some (.dT (kvN t.nn)) := by
  obtain ⟨nd, hx, hps⟩ := S.ok.inv
  exact ⟨nd, hx, hps (l, _) (by simp), hps (d2, _) (by simp), hps (d1, _) (by simp)⟩
end
end Ly

set_option maxHeartbeats 4000000
namespace Ly
open PySem L2 PySem.Spec PyProof.Rows
section
variable {K : PySem.W.Frag} {Γ : List (Option Dat)} {G1 G0 H0 G H : Hp} {σ : L2.St} {x C dx d1 d2 l : Addr} {D : Ends} {tz : TS} {tl : TE} {t : Tri.T}
abbrev tLstep (K : PySem.W.Frag) : TS := tSeq (tAsg (tDSetT (tFld K (tVar 0) "_next_nodes") (tTup (tCons (tVar 5) (tCons (tVar 6) tNil))) (tCB (rLen K) (tCons (tFld K (tVar 0) "_makers") tNil))) (gName 5))
  (tIfS (tTest (tOp rEq (tVar 5) (tCB (rLen K) (tCons (tFld K (tVar 0) "_makers") tNil)))) (tDrop (tBM K "list" rAppend (tFld K (tVar 0) "_makers") (tCons (tVar 2) tNil))) tNext)
abbrev tLbody (K : PySem.W.Frag) : TS := tSeq (tAsg (tC (.int 0)) (gName 5)) (tSeq (tFor (iTup K (tVar 3)) (gName 6) (tLstep K)) (tDrop (tDSetd (tFld K (tVar 0) "_ends") (tVar 5) (tVar 2))))
end
end Ly
namespace Ly
open PySem L2 PySem.Spec PyProof.Rows
end Ly

set_option maxHeartbeats 4000000
/-! an object that another one in the making holds -/
namespace Ly
open PySem L2 PySem.Spec PyProof.Rows
section
variable {K : PySem.W.Frag} {G : Hp} {x C dx : Addr} {fs : List (Str × V)}
theorem Flds.keys : ∀ {vs : List (Str × V)} {fsd : List (Str × Dat)}, Flds K G vs fsd → vs.map Prod.fst = fsd.map Prod.fst
  | _, _, .nil => rfl
  | _, _, .cons _ r => by
    rw [List.map_cons, List.map_cons, Flds.keys r]
theorem Flds.hide (hl : G x = some (.ins C dx fs)) : ∀ {vs : List (Str × V)} {fsd : List (Str × Dat)}, (∀ p ∈ fsd, NO p.2) → Flds K G vs fsd → Flds K (del G x) vs fsd
  | _, _, _, .nil => .nil
  | _, _, n, .cons h r => .cons (Rep.hide hl (n _ List.mem_cons_self) h) (Flds.hide hl (fun p hp => n p (List.mem_cons_of_mem _ hp)) r)
variable {Γ : List (Option Dat)} {G1 G0 H0 H : Hp} {σ : L2.St} {D : Ends} {tz : TS} {tv ta : TE} {P : Dat → Prop} {f : Str} {fsd : List (Str × Dat)} {i : Nat}
theorem NOd.ints : ∀ nn : List (List Int × Int), NOd (dkN nn)
  | [] => by simp [dkN, NOd]
  | p :: nn => by
    show NOd ((iK p.1, Dat.int p.2) :: dkN nn)
    rw [NOd]
    exact ⟨by simp [NO], NOd.ints nn⟩
theorem NOk.ints : ∀ en : List (Int × Int), NOk (dkE en)
  | [] => by simp [dkE, NOk]
  | p :: en => by
    show NOk (((Sum.inl p.1 : Key), Dat.int p.2) :: dkE en)
    rw [NOk]
    exact ⟨by simp [NO], NOk.ints en⟩
theorem NO.lf (t : Tri.T) : ∀ p ∈ lfF t, NO p.2 := fun p hp => by
  simp only [lfF, List.mem_cons, List.not_mem_nil, or_false] at hp
  rcases hp with rfl | rfl | rfl
  · show NO (.dct _)
    rw [NO]
    exact NOd.ints _
  · show NO (.dcs _)
    rw [NO]
    exact NOk.ints _
  · show NO (.lst _)
    rw [NO]
    exact NOs.ints _
end
/-- a string system's rules as they should be -/
def goodS (rules : List (List Int × List Int)) : Bool := rules.all fun r => !r.1.isEmpty && (r.1 ++ r.2).all fun s => decide (0 ≤ s)
def A_sinit (CL : Addr) : InitQ := fun ds b F => ∃ rules : List (List Int × List Int), rules.length ≤ 100 ∧ (∀ r ∈ rules, r.1.length ≤ 100 ∧ r.2.length ≤ 100) ∧ ds = [.lst (rules.map rlD)] ∧ b = goodS rules ∧
  F = (· = [(("rules" : Str), Dat.tup (rules.map rlD)), (("_left_sides" : Str), Dat.obj CL (lfF (Tri.build (rules.map Prod.fst) rules.length)))])
end Ly

set_option maxHeartbeats 4000000
/-! looking a left side up -/
namespace Tri
/-- the numbers of the nodes are no less than 0 -/
def np (t : T) : Prop := ∀ p ∈ t.nn, 0 ≤ p.2
end Tri
namespace Ly
open PySem L2 PySem.Spec PyProof.Rows
section
variable {W : Wd} {K : PySem.W.Frag} {Γ : List (Option Dat)} {ta tb tc : TE} {G : Hp}
end
def A_least (CL : Addr) : Sig := fun ds P => ∃ (rules : List (List Int × List Int)) (word : List Int) (s : Nat) (best : Int), rules.length ≤ 100 ∧ (∀ r ∈ rules, r.1.length ≤ 100) ∧ word.length ≤ 100000 ∧ s ≤ word.length ∧
  ds = [.obj CL (lfF (Tri.build (rules.map Prod.fst) rules.length)), .tup (word.map Dat.int), .int (s : Int), .int best] ∧ P = (· = .int (Tri.walk (Tri.build (rules.map Prod.fst) rules.length) best 0 (word.drop s)))
end Ly

set_option maxHeartbeats 4000000
namespace Ly
open PySem L2 PySem.Spec PyProof.Rows
def StepP (rules : List (List Int × List Int)) (conf : List Int) (d : Dat) : Prop :=
  (d = .non ∧ ∀ r s, s < conf.length → ¬ Tri.Hit (rules.map Prod.fst) [] (conf.drop s) r) ∨
    ∃ (b pl : Nat) (rl : List Int × List Int), rules[b]? = some rl ∧ pl < conf.length ∧ Tri.Hit (rules.map Prod.fst) [] (conf.drop pl) b ∧ (∀ s, s < pl → ¬ Tri.Hit (rules.map Prod.fst) [] (conf.drop s) b) ∧
      (∀ r s, s < conf.length → Tri.Hit (rules.map Prod.fst) [] (conf.drop s) r → b ≤ r) ∧ d = .tup ((conf.take pl ++ rl.2 ++ conf.drop (pl + rl.1.length)).map Dat.int)
abbrev sF (CL : Addr) (rules : List (List Int × List Int)) : List (Str × Dat) := [(("rules" : Str), Dat.tup (rules.map rlD)), (("_left_sides" : Str), Dat.obj CL (lfF (Tri.build (rules.map Prod.fst) rules.length)))]
def A_sstep (CS CL : Addr) : Sig := fun ds P => ∃ (rules : List (List Int × List Int)) (conf : List Int), rules.length ≤ 100 ∧ (∀ r ∈ rules, r.1.length ≤ 100 ∧ r.2.length ≤ 100) ∧ conf.length ≤ 10000 ∧ ds = [.obj CS (sF CL rules), .tup (conf.map Dat.int)] ∧ P = StepP rules conf
/-- it tells one datum only -/
theorem StepP.one {rules : List (List Int × List Int)} {conf : List Int} {d e : Dat} (h1 : StepP rules conf d) (h2 : StepP rules conf e) : d = e := by
  rcases h1 with ⟨rfl, n1⟩ | ⟨b, pl, rl, hr, hp, hh, hf, hm, rfl⟩ <;> rcases h2 with ⟨rfl, n2⟩ | ⟨b2, pl2, rl2, hr2, hp2, hh2, hf2, hm2, rfl⟩
  · rfl
  · exact absurd hh2 (n1 _ _ hp2)
  · exact absurd hh (n2 _ _ hp)
  · have eb : b = b2 := Nat.le_antisymm (hm _ _ hp2 hh2) (hm2 _ _ hp hh)
    subst eb
    have ep : pl = pl2 := by
      rcases Nat.lt_trichotomy pl pl2 with h | h | h
      · exact absurd hh (hf2 _ h)
      · exact h
      · exact absurd hh2 (hf _ h)
    subst ep
    rw [hr] at hr2
    cases hr2
    rfl
end Ly

set_option maxHeartbeats 4000000
/-! # several except clauses, each with a name -/
namespace Ly
open PySem L2 PySem.Spec PyProof.Rows
/-- an exception that has landed on the ground of X -/
structure Lnd (X : Cx) (pins : List (Addr × Obj)) (a : Addr) (B : Heap) (sI : Shared) (σ : L2.St) (H : Hp) (cls : Value) (d : Option Addr) (s : Shared) : Prop where
  ok : X.Ok
  hs : X.stack = X.env :: X.outer
  hf : X.env.frame = some X.env.locals
  fl : HandSPX.FlyingZ B (X.env :: X.outer) a (L2N.Zn cls d) s.heap
  inv : Inv X pins σ H sI
  nb : ∀ b o, sI.heap.get? b = some o → b ∉ frs X.stack → B.get? b = some o
  up : sI.heap.UpToSlots s.heap
  na : H a = none
  os : s.os = sI.os
  ag : AllBare s.gens
/-- what the clauses do with it -/
def Catch (X : Cx) (hds : List ExceptHandler) (w : Ends → WX) : Prop :=
  ∀ (pins : List (Addr × Obj)) (a : Addr) (B : Heap) (sI : Shared) (σ : L2.St) (H : Hp) (cls : Value) (d : Option Addr) (s : Shared) (D : Ends), Lnd X pins a B sI σ H cls d s → w D cls d σ H → wpAny (model X.prog X.w) X.A (handleBy (.ref a) X.env hds) (SP X pins D) X.xe s
section
variable {X : Cx} {pins : List (Addr × Obj)} {a : Addr} {B : Heap} {sI s : Shared} {σ : L2.St} {H : Hp} {cls : Value} {d : Option Addr}
theorem Lnd.here (L : Lnd X pins a B sI σ H cls d s) : Inv X pins σ H s := L.inv.landed L.nb L.fl.1 L.up L.os L.ag
theorem Lnd.out (L : Lnd X pins a B sI σ H cls d s) : a ≠ X.env.locals ∧ a ∉ X.fs := by
  obtain ⟨oe, vs, he, _, hd⟩ := L.fl.there
  have far : a ∉ frs (X.env :: X.outer) := fun hm => by
    obtain ⟨_, o, e, ho⟩ := L.fl.2.2.1.mem hm
    rw [he] at e
    cases e
    exact ho _ hd
  constructor
  · intro z
    exact far (List.mem_filterMap.mpr ⟨X.env, List.mem_cons_self, by rw [L.hf, z]⟩)
  · intro hm
    obtain ⟨e, h1, h2⟩ := List.mem_filterMap.mp hm
    exact far (List.mem_filterMap.mpr ⟨e, List.mem_cons_of_mem _ h1, h2⟩)
theorem Lnd.move {h : Heap} (L : Lnd X pins a B sI σ H cls d s) (fl : HandSPX.FlyingZ B (X.env :: X.outer) a (L2N.Zn cls d) h) (up : s.heap.UpToSlots h) : Lnd X pins a B sI σ H cls d { s with heap := h } :=
  ⟨L.ok, L.hs, L.hf, fl, L.inv, L.nb, L.up.trans up, L.na, L.os, L.ag⟩
end
/-- a try whose clauses are told by Catch -/
def tTryC (tb : WX → TS) (w : Ends → WX) : TS := fun D σ H => tb (w D) D σ H
end Ly

set_option maxHeartbeats 4000000
/-! # objects of one of several classes: a method's call, == -/
namespace Ly
open PySem L2 PySem.Spec PyProof.Rows
/-- the class, what its method (or its ==) keeps -/
abbrev ClsL := List (Addr × Sp)
def tMethP (m : Str) (L : ClsL) (ta : TE) (t : TA) : TE := fun σ H Q => ta σ H fun x H1 => ∃ a C dx fs sp, (C, sp) ∈ L ∧ x = .ref a ∧ H1 a = some (.ins C dx fs) ∧ fs.lookup m = none ∧ t σ H1 fun vs H2 => sp (x :: vs) H2 Q E0
structure MetP (P : Program) (w : World) (K : PySem.W.Frag) (mg : Str → Option Value) (base : Heap) (k : Nat) (m : Str) (L : ClsL) : Prop where
  all : ∀ C sp, (C, sp) ∈ L → ∃ i, i ≤ k ∧ C8.Met P w K mg base i C m sp []
structure EqP (P : Program) (w : World) (K : PySem.W.Frag) (mg : Str → Option Value) (base : Heap) (k : Nat) (L : ClsL) : Prop where
  all : ∀ C sp, (C, sp) ∈ L → ∃ i, i ≤ k ∧ EqS P w K mg base i C sp
section
variable {P : Program} {w : World} {K : PySem.W.Frag} {mg : Str → Option Value} {base : Heap} {k i : Nat} {m : Str} {C : Addr} {sp : Sp} {L : ClsL}
theorem MetP.nil : MetP P w K mg base k m [] := ⟨fun _ _ h => nomatch h⟩
theorem MetP.cons (c : C8.Met P w K mg base i C m sp []) (r : MetP P w K mg base k m L) (h : i ≤ k := by decide) : MetP P w K mg base k m ((C, sp) :: L) := ⟨fun C' sp' hm => by
  rcases List.mem_cons.mp hm with e | hm
  · cases e
    exact ⟨i, h, c⟩
  · exact r.all C' sp' hm⟩
theorem EqP.nil : EqP P w K mg base k [] := ⟨fun _ _ h => nomatch h⟩
theorem EqP.cons (c : EqS P w K mg base i C sp) (r : EqP P w K mg base k L) (h : i ≤ k := by decide) : EqP P w K mg base k ((C, sp) :: L) := ⟨fun C' sp' hm => by
  rcases List.mem_cons.mp hm with e | hm
  · cases e
    exact ⟨i, h, c⟩
  · exact r.all C' sp' hm⟩
end
section
variable {X : Cx} {k j : Nat} {m : Str} {L : ClsL} {apos pos : Pos} {e o : Expr} {es : List Expr} {ta : TE} {t : TA}
theorem pe_mP {pl : Sem Bool} (c : MetP X.prog X.w X.K X.mg X.base k m L) (hr : Room j X.A) (hk : k ≤ j) (he : PE X o ta) (ha : PA X (e :: es) t)
    (hst : starEach (e :: es) X.env = (false, eval e X.env) :: starEach es X.env := by rfl) (hpl : (backTo pos (starEach es X.env)).any (·.1) = false := by rfl)
    (ht : eval (.Call (.Attribute o m apos) (e :: es) [] pos) X.env = (do
      let ov ← eval o X.env
      standAt apos.atName
      let (f, first) ← holding [ov] (getMethod ov m pl)
      callWith pos f first (backTo pos (starEach (e :: es) X.env)) (backToKw pos (keywordEach [] X.env))) := by rfl) : PE X (.Call (.Attribute o m apos) (e :: es) [] pos) (tMethP m L ta t) := by
  refine ⟨fun pins s σ H Q I h => ?_⟩
  refine PySem.W.methodCall_KW (pl := pl) (thn (he.run pins s σ H _ I h) fun u s1 ⟨x, H1, I1, rx, a, C, dx, fs, sp, hL, ex, ea, l, q⟩ => ?_) ht
  subst ex
  obtain rfl : u = Value.ref a := rx
  obtain ⟨i, hi, ⟨f, fd, ps, ds, hc, hm, F, b, d⟩⟩ := c.all C sp hL
  refine getmeth_ok I1 ea hc hm l ?_
  refine PySem.W.callWith_K (first := [.ref a]) (h₀ := X.base) I.ok.mod.kin hm.kp (thn (ha.run pos pins s1 σ H1 _ I1 q) fun us s2 ⟨vs, H2, I2, r, q2⟩ => ⟨I2.kIn, ?_⟩) hst hpl
  exact run_fn (dvs := []) (us := .ref a :: us) (vs := .ref a :: vs) F (hr.mono (Nat.le_trans hi hk)) b d pass0 I2 (.cons rfl r) (by rw [List.append_nil]; exact q2)
/-- ==, the two of any classes of the list -/
def rEqP (K : PySem.W.Frag) (L : ClsL) : R2 := fun x y H Q => ∃ a b C C2 dx dy fs gs sp, (C, sp) ∈ L ∧ x = .ref a ∧ y = .ref b ∧ H a = some (.ins C dx fs) ∧ H b = some (.ins C2 dy gs) ∧ PySem.W.notFirst K C (.ref C2) = true ∧ sp [x, y] H (fun v H' => ∃ c, v = .bl c ∧ Q (.bl c) H') E0
end
section
variable {W : Wd} {K : PySem.W.Frag} {Γ : List (Option Dat)} {ta tb tc : TE} {tA : TA} {P R : Dat → Prop} {C C2 : Addr} {L : ClsL}
theorem v_methP {A : Sig} {m : Str} {fsd : List (Str × Dat)} {R : List Dat → Prop} (hL : (C, spOf Wd0 K A) ∈ L) (h : EvX W K ta Γ (.obj C fsd)) (hm : fsd.lookup m = none) (h2 : EvA W K tA Γ R) (hs : ∀ ds, R ds → A (.obj C fsd :: ds) P) : Ev W K (tMethP m L ta tA) Γ P := fun σ G H n k Q q =>
  h σ G H n k _ fun v e G2 H2 s ee r => by
    subst ee
    have k2 := s.ok k
    cases r with
    | @obj a C dx vs fs hg fl =>
      refine ⟨a, C, dx, vs, _, hL, rfl, k2.ex _ _ hg, fl.none hm, ?_⟩
      refine h2 σ G2 H2 (n.mono s.gg) k2 _ fun ws ds G3 H3 s3 p r3 => ?_
      have s13 := s.trans s3
      exact ⟨G3, _, P, (s13.ok k).pure, .cons (.obj (s3.gg _ _ hg) (fl.mono s3.gg)) r3, hs ds p, fun v d G4 H4 t pd rd => q v d G4 H4 (s13.trans (Stp.of0 (s13.ok k) t)) pd rd⟩
theorem v_lastL {ds : List Dat} {d : Dat} (ha : EvX W K ta Γ (.lst ds)) (hb : EvX W K tb Γ (.int (-1))) (hn : 0 < ds.length) (h : ds[ds.length - 1]? = some d) : EvX W K (tOp (rIxL K) ta tb) Γ d := v_opx ha hb fun G H x y k rx ry Q q => by
  cases ry
  obtain ⟨a, xs, rfl, hs, r⟩ := rx.lst_inv
  obtain ⟨v, h1, h2⟩ := r.get h
  have hl := r.length
  exact ⟨a, xs, -1, v, rfl, rfl, ex_l k.ex hs, by rw [atI_last (by omega), hl]; exact h1, q.here k h2 rfl⟩
end
end Ly

set_option maxHeartbeats 4000000
/-! # try: y = C(.., xs, ..), xs an own list, the object with lists of ints in its fields -/
namespace Ly
open PySem L2 PySem.Spec PyProof.Rows
mutual
/-- lists only such as begin with an int -/
def NI : Dat → Prop
  | .non => True
  | .bl _ => True
  | .int _ => True
  | .str _ => True
  | .adr _ => True
  | .tup ds => NIs ds
  | .lst ds => (∃ i r, ds = .int i :: r) ∧ NIs ds
  | .obj _ fs => NIf fs
  | .dct es => NId es
  | .dcs es => NIk es
def NIs : List Dat → Prop
  | [] => True
  | d :: ds => NI d ∧ NIs ds
def NIf : List (Str × Dat) → Prop
  | [] => True
  | (_, d) :: ds => NI d ∧ NIf ds
def NId : List (List Key × Dat) → Prop
  | [] => True
  | (_, d) :: ds => NI d ∧ NId ds
def NIk : List (Key × Dat) → Prop
  | [] => True
  | (_, d) :: ds => NI d ∧ NIk ds
end
section
variable {K : PySem.W.Frag} {G : Hp} {l : Addr} {xl : List V}
theorem lI_off (hl : G l = some (.lst xl)) (hx : ∀ i r, xl ≠ .int i :: r) {a : Addr} {xs : List V} {ds : List Dat} (hd : ∃ i r, ds = .int i :: r) (h : SqL K G a xs) (r : Reps K G xs ds) : SqL K (del G l) a xs := by
  have off : ∀ {o : HO}, G a = some o → (∀ z, o = .lst z → z = xs) → a ≠ l := fun {o} h1 h2 e => by
    subst e
    rw [hl] at h1
    cases h1
    have := h2 xl rfl
    subst this
    obtain ⟨i, t, rfl⟩ := hd
    cases r with
    | cons r _ =>
      cases r
      exact hx _ _ rfl
  rcases h with (h | ⟨o, h⟩) | h
  · refine .inl (.inl ?_)
    rw [del_ne (off h fun z e => by cases e; rfl)]
    exact h
  · refine .inl (.inr ⟨o, ?_⟩)
    rw [del_ne (off h fun z e => by cases e)]
    exact h
  · exact .inr h
mutual
theorem Rep.thawI (hl : G l = some (.lst xl)) (hx : ∀ i r, xl ≠ .int i :: r) : ∀ {v : V} {d : Dat}, NI d → Rep K G v d → Rep K (del G l) v d
  | _, _, _, .non => .non
  | _, _, _, .bl b => .bl b
  | _, _, _, .int i => .int i
  | _, _, _, .str x => .str x
  | _, _, _, .adr a => .adr a
  | _, _, n, .tup h r => by
    rw [NI] at n
    exact .tup (sqt_del hl h) (Reps.thawI hl hx n r)
  | _, _, n, .lst h r => by
    rw [NI] at n
    exact .lst (lI_off hl hx n.1 h r) (Reps.thawI hl hx n.2 r)
  | _, _, n, .obj h r => by
    rw [NI] at n
    exact .obj (G := del G l) (by rw [del_ne (ne_of h hl (by intro z; cases z))]; exact h) (Flds.thawI hl hx n r)
  | _, _, n, .dct h r => by
    rw [NI] at n
    exact .dct (G := del G l) (by rw [del_ne (ne_of h hl (by intro z; cases z))]; exact h) (Dcts.thawI hl hx n r)
  | _, _, n, .dcs h r => by
    rw [NI] at n
    exact .dcs (G := del G l) (by rw [del_ne (ne_of h hl (by intro z; cases z))]; exact h) (Dcks.thawI hl hx n r)
theorem Reps.thawI (hl : G l = some (.lst xl)) (hx : ∀ i r, xl ≠ .int i :: r) : ∀ {v : List V} {d : List Dat}, NIs d → Reps K G v d → Reps K (del G l) v d
  | _, _, _, .nil => .nil
  | _, _, n, .cons h r => by
    rw [NIs] at n
    exact .cons (Rep.thawI hl hx n.1 h) (Reps.thawI hl hx n.2 r)
theorem Flds.thawI (hl : G l = some (.lst xl)) (hx : ∀ i r, xl ≠ .int i :: r) : ∀ {v : List (Str × V)} {d : List (Str × Dat)}, NIf d → Flds K G v d → Flds K (del G l) v d
  | _, _, _, .nil => .nil
  | _, _, n, .cons h r => by
    rw [NIf] at n
    exact .cons (Rep.thawI hl hx n.1 h) (Flds.thawI hl hx n.2 r)
theorem Dcts.thawI (hl : G l = some (.lst xl)) (hx : ∀ i r, xl ≠ .int i :: r) : ∀ {v : List (List Key × V)} {d : List (List Key × Dat)}, NId d → Dcts K G v d → Dcts K (del G l) v d
  | _, _, _, .nil => .nil
  | _, _, n, .cons h r => by
    rw [NId] at n
    exact .cons (Rep.thawI hl hx n.1 h) (Dcts.thawI hl hx n.2 r)
theorem Dcks.thawI (hl : G l = some (.lst xl)) (hx : ∀ i r, xl ≠ .int i :: r) : ∀ {v : List (Key × V)} {d : List (Key × Dat)}, NIk d → Dcks K G v d → Dcks K (del G l) v d
  | _, _, _, .nil => .nil
  | _, _, n, .cons h r => by
    rw [NIk] at n
    exact .cons (Rep.thawI hl hx n.1 h) (Dcks.thawI hl hx n.2 r)
end
end
section
variable {W : Wd} {K : PySem.W.Frag} {Γ : List (Option Dat)} {tA : TA} {G1 G0 H0 G H : Hp} {O : List (Addr × List Dat)} {σ : L2.St} {D : Ends} {tz : TS} {C CE : Addr}
theorem NI.ints : ∀ ns : List Int, NIs (ns.map Dat.int)
  | [] => by simp [NIs]
  | n :: ns => by
    rw [List.map_cons, NIs]
    exact ⟨by rw [NI]; trivial, NI.ints ns⟩
end
theorem NIs.rl : ∀ rs : List (List Int × List Int), NIs (rs.map rlD)
  | [] => by simp [NIs]
  | r :: rs => by
    rw [List.map_cons, NIs]
    refine ⟨?_, NIs.rl rs⟩
    show NI (.tup [.tup (r.1.map Dat.int), .tup (r.2.map Dat.int)])
    rw [NI, NIs, NIs, NIs, NI, NI]
    exact ⟨NI.ints _, NI.ints _, trivial⟩
theorem NId.dkN : ∀ nn : List (List Int × Int), NId (dkN nn)
  | [] => by simp [Ly.dkN, NId]
  | n :: nn => by
    show NId ((_, Dat.int _) :: Ly.dkN nn)
    rw [NId, NI]
    exact ⟨trivial, NId.dkN nn⟩
theorem NIk.dkE : ∀ en : List (Int × Int), NIk (dkE en)
  | [] => by simp [Ly.dkE, NIk]
  | n :: en => by
    show NIk ((_, Dat.int _) :: Ly.dkE en)
    rw [NIk, NI]
    exact ⟨trivial, NIk.dkE en⟩
theorem NIf.sF (CL : Addr) (rules : List (List Int × List Int)) : NIf (sF CL rules) := by
  obtain ⟨ps, tr⟩ := Tri.build_tr (rules.map Prod.fst) rules.length (by rw [List.length_map]; exact Nat.le_refl _)
  have hl := tr.len
  have hz := tr.zero
  show NIf [_, _]
  rw [NIf, NIf, NIf, NI, NI]
  refine ⟨NIs.rl rules, ?_, trivial⟩
  show NIf [_, _, _]
  rw [NIf, NIf, NIf, NIf, NI, NI, NI]
  refine ⟨NId.dkN _, NIk.dkE _, ⟨?_, NI.ints _⟩, trivial⟩
  cases h : (Tri.build (rules.map Prod.fst) rules.length).ms with
  | nil =>
    rw [h, List.length_nil, List.length_eq_zero_iff] at hl
    rw [hl] at hz
    simp at hz
  | cons a r => exact ⟨a, _, rfl⟩
end Ly

set_option maxHeartbeats 4000000
/-! # a drawn number less a known one; ==, the right one told by what it is -/
namespace Ly
open PySem L2 PySem.Spec PyProof.Rows
section
variable {W : Wd} {K : PySem.W.Frag} {Γ : List (Option Dat)} {ta tb tc : TE} {tA : TA} {P R : Dat → Prop} {C C2 : Addr} {L : ClsL}
end
theorem Pl.le {n m : Nat} {d : Dat} (h : n ≤ m) (p : Pl n d) : Pl m d := by
  induction h with
  | refl => exact p
  | step _ ih => exact Pl.up ih
end Ly

set_option maxHeartbeats 4000000
/-! # a dict of the body's own, whose values are own lists -/
namespace Ly
open PySem L2 PySem.Spec PyProof.Rows
/-- one mutable object of the body's own -/
def WO (x : Addr) (o : HO) : Wd where
  m := fun a => a = x
  I := fun H => H x = some o
  loc := fun h e => by rw [e x rfl]; exact h
  tr := fun h hm => by
    subst hm
    exact ⟨_, h⟩
section
variable {W : Wd} {K : PySem.W.Frag} {Γ : List (Option Dat)} {ta tc te tl tv tn : TE} {tA : TA} {G1 G0 H0 G H : Hp} {O O2 : List (Addr × List Dat)} {σ : L2.St} {D : Ends} {tz : TS} {x : Addr} {o o2 : HO} {i j : Nat}
theorem S4.perm (p : O.Perm O2) (S : S4 W K G1 G0 H0 Γ O σ G H) : S4 W K G1 G0 H0 Γ O2 σ G H := ⟨S.env, S.ok, S.stp, fun l ds hm => S.own l ds (p.mem_iff.mpr hm), (p.map _).nodup_iff.mp S.nd, S.fr⟩
theorem S4.leaveO (h0 : H0 x = none) (S : S4 (WO x o) K G1 G0 H0 Γ O σ G H) : S4 Wd0 K G1 G0 H0 Γ O σ G H :=
  ⟨S.env, ⟨S.ok.ex, trivial, fun _ h => h.elim⟩, ⟨S.stp.gg, S.stp.gh, fun a u _ e => S.stp.hh a u (fun z => by
    have z : a = x := z
    rw [z, h0] at e
    cases e) e, S.stp.nw, trivial⟩, fun l ds hm => ⟨(S.own l ds hm).g, (S.own l ds hm).h0, fun h => h, (S.own l ds hm).at'⟩, S.nd, S.fr⟩
theorem S4.putO (S : S4 (WO x o) K G1 G0 H0 Γ O σ G H) : S4 (WO x o2) K G1 G0 H0 Γ O σ G (upd H x o2) := by
  have gx : G x = none := S.ok.off x rfl
  have eg : Ex G (upd H x o2) := fun a u e => by
    rw [upd_ne (ne_of_none e gx)]
    exact S.ok.ex a u e
  refine ⟨S.env, ⟨eg, upd_same, S.ok.off⟩, ⟨S.stp.gg, eg, fun a u hm e => ?_, S.stp.nw, upd_same⟩, fun l ds hm => ?_, S.nd, S.fr⟩
  · rw [upd_ne hm]
    exact S.stp.hh a u hm e
  · obtain ⟨g, h, m, xs, h1, h2⟩ := S.own l ds hm
    exact ⟨g, h, m, xs, by rw [upd_ne m]; exact h1, h2⟩
theorem S4.newL {p : Addr} (hp : H p = none) (S : S4 W K G1 G0 H0 Γ O σ G H) : S4 W K G1 G0 H0 Γ ((p, []) :: O) σ G (upd H p (.lst [])) := by
  have st : Stp W G H G (upd H p (.lst [])) := Stp.grow S.ok (Ex.new hp)
  have S2 := S.step st
  have gp : G p = none := by
    cases e : G p with
    | none => rfl
    | some u =>
      rw [S.ok.ex p u e] at hp
      cases hp
  refine ⟨S2.env, S2.ok, S2.stp, fun l ds hm => ?_, ?_, S2.fr⟩
  · rcases List.mem_cons.mp hm with e | hm
    · cases e
      exact ⟨gp, (back S.stp hp).1, (fun hmm => by
        obtain ⟨z, hz⟩ := W.tr S.ok.inv hmm
        rw [hz] at hp
        cases hp), [], upd_same, .nil⟩
    · exact S2.own l ds hm
  · rw [List.map_cons, List.nodup_cons]
    refine ⟨fun hm => ?_, S.nd⟩
    obtain ⟨q, hq, e⟩ := List.mem_map.mp hm
    obtain ⟨xs, h1, _⟩ := (S.own q.1 q.2 hq).at'
    have e : q.1 = p := e
    rw [e, hp] at h1
    cases h1
theorem q_newOT (S : S4 Wd0 K G1 G0 H0 Γ [] σ G H) (k : ∀ x σ2 H2, H0 x = none → S4 (WO x (.dT [])) K G1 G0 H0 (Γ.set i (some (.adr x))) [] σ2 G H2 → tz D σ2 H2) : tSeq (tAsg tDNewT (gName i)) tz D σ H := fun p hp => by
  have gp : G p = none := by
    cases e : G p with
    | none => rfl
    | some u =>
      rw [S.ok.ex p u e] at hp
      cases hp
  have h0 : H0 p = none := (back S.stp hp).1
  have S2 := S.set (i := i) (Rep.adr p)
  have eg : Ex G (upd H p (.dT [])) := fun a u e => by
    rw [upd_ne (ne_of_none e gp)]
    exact S.ok.ex a u e
  refine k p _ (upd H p (.dT [])) h0 ⟨S2.env, ⟨eg, upd_same, fun a ha => by rw [show a = p from ha]; exact gp⟩, ⟨S.stp.gg, eg, fun a u hm e => ?_, S.stp.nw, upd_same⟩, (fun _ _ hm => nomatch hm), List.nodup_nil, S2.fr⟩
  rw [upd_ne hm]
  exact S.stp.hh a u (fun z => z) e
theorem q_newOK (S : S4 Wd0 K G1 G0 H0 Γ [] σ G H) (k : ∀ x σ2 H2, H0 x = none → S4 (WO x (.dK [])) K G1 G0 H0 (Γ.set i (some (.adr x))) [] σ2 G H2 → tz D σ2 H2) : tSeq (tAsg tDNewK (gName i)) tz D σ H := fun p hp => by
  have gp : G p = none := by
    cases e : G p with
    | none => rfl
    | some u =>
      rw [S.ok.ex p u e] at hp
      cases hp
  have h0 : H0 p = none := (back S.stp hp).1
  have S2 := S.set (i := i) (Rep.adr p)
  have eg : Ex G (upd H p (.dK [])) := fun a u e => by
    rw [upd_ne (ne_of_none e gp)]
    exact S.ok.ex a u e
  refine k p _ (upd H p (.dK [])) h0 ⟨S2.env, ⟨eg, upd_same, fun a ha => by rw [show a = p from ha]; exact gp⟩, ⟨S.stp.gg, eg, fun a u hm e => ?_, S.stp.nw, upd_same⟩, (fun _ _ hm => nomatch hm), List.nodup_nil, S2.fr⟩
  rw [upd_ne hm]
  exact S.stp.hh a u (fun z => z) e
/-- y = d.setdefault((i, j), []) -/
theorem q_setdT {ns : List Int} {vs : List (List Key × V)} (hi : Γ[i]? = some (some (.adr x))) (hk : EvAX (WO x (.dT vs)) K tA Γ (ns.map Dat.int)) (hkl : ns.length ≤ 1000) (hl : vs.length < 100000) (hv : ∀ v, valV vs (iK ns) = some v → ∃ l, v = .ref l) (S : S4 (WO x (.dT vs)) K G1 G0 H0 Γ O σ G H)
    (k1 : ∀ l σ2 G2 H2, valV vs (iK ns) = some (.ref l) → S4 (WO x (.dT vs)) K G1 G0 H0 (Γ.set j (some (.adr l))) O σ2 G2 H2 → tz D σ2 H2)
    (k2 : ∀ l σ2 G2 H2, valV vs (iK ns) = none → S4 (WO x (.dT (putK vs (iK ns) (.ref l)))) K G1 G0 H0 (Γ.set j (some (.adr l))) ((l, []) :: O) σ2 G2 H2 → tz D σ2 H2) : tSeq (tAsg (tDSetT (tVar i) (tTup tA) (tLst tNil)) (gName j)) tz D σ H := by
  obtain ⟨v, e1, e2⟩ := S.env.at' i _ hi
  have e3 := e2.adr_inv
  subst e3
  have hx : H x = some (.dT vs) := S.ok.inv
  refine ⟨.ref x, e1, x, rfl, .inr ⟨vs, .inl hx⟩, ?_⟩
  refine hk σ G H S.env S.ok _ fun ws ds G2 H2 s e r => ?_
  subst e
  have ew := r.ints
  subst ew
  have S2 := S.step s
  refine ⟨by rw [List.length_map]; exact sz_of (by omega), fun q hq => ?_⟩
  have S3 := S2.step (Stp.new (o := .tup (ns.map V.int)) S2.ok hq)
  refine ⟨by simp, fun p hp => ?_⟩
  have st4 : Stp (WO x (.dT vs)) _ _ _ _ := Stp.grow S3.ok (Ex.new (o := .lst []) hp)
  have S4' := S3.step st4
  have hx4 : upd (upd H2 q (.tup (ns.map V.int))) p (.lst []) x = some (.dT vs) := S4'.ok.inv
  have hpq : q ≠ p := fun e => by
    rw [e, upd_same] at hp
    cases hp
  refine ⟨vs, iK ns, q, hx4, rfl, by rw [upd_ne hpq, upd_same, iK_V], sz_lt hl, fun v hvv => ?_, fun hn => ?_⟩
  · obtain ⟨l, rfl⟩ := hv v hvv
    exact k1 l _ _ _ hvv (S4'.set (Rep.adr l))
  · exact k2 p _ _ _ hn ((S4.putO (S4.newL hp S3)).set (Rep.adr p))
/-- y = d.setdefault(i, []) -/
theorem q_setdK {n : Int} {vs : List (Key × V)} (hi : Γ[i]? = some (some (.adr x))) (hk : EvX (WO x (.dK vs)) K te Γ (.int n)) (hl : vs.length < 100000) (hv : ∀ v, valV vs (Sum.inl n : Key) = some v → ∃ l, v = .ref l) (S : S4 (WO x (.dK vs)) K G1 G0 H0 Γ O σ G H)
    (k1 : ∀ l σ2 G2 H2, valV vs (Sum.inl n : Key) = some (.ref l) → S4 (WO x (.dK vs)) K G1 G0 H0 (Γ.set j (some (.adr l))) O σ2 G2 H2 → tz D σ2 H2)
    (k2 : ∀ l σ2 G2 H2, valV vs (Sum.inl n : Key) = none → S4 (WO x (.dK (putK vs (Sum.inl n : Key) (.ref l)))) K G1 G0 H0 (Γ.set j (some (.adr l))) ((l, []) :: O) σ2 G2 H2 → tz D σ2 H2) : tSeq (tAsg (tDSetd (tVar i) te (tLst tNil)) (gName j)) tz D σ H := by
  obtain ⟨v, e1, e2⟩ := S.env.at' i _ hi
  have e3 := e2.adr_inv
  subst e3
  have hx : H x = some (.dK vs) := S.ok.inv
  refine ⟨.ref x, e1, x, rfl, .inl ⟨vs, .inl hx⟩, ?_⟩
  refine hk σ G H S.env S.ok _ fun y d G2 H2 s e r => ?_
  subst e
  cases r
  have S3 := S.step s
  refine ⟨by simp, fun p hp => ?_⟩
  have st4 : Stp (WO x (.dK vs)) _ _ _ _ := Stp.grow S3.ok (Ex.new (o := .lst []) hp)
  have S4' := S3.step st4
  have hx4 : upd H2 p (.lst []) x = some (.dK vs) := S4'.ok.inv
  refine ⟨vs, Sum.inl n, hx4, rfl, sz_lt hl, fun v hvv => ?_, fun hn => ?_⟩
  · obtain ⟨l, rfl⟩ := hv v hvv
    exact k1 l _ _ _ hvv (S4'.set (Rep.adr l))
  · exact k2 p _ _ _ hn ((S4.putO (S4.newL hp S3)).set (Rep.adr p))
/-- for x in an own list of ints, which stays as it is -/
theorem g_forO {ns : List Int} {l : Addr} {tb : TS} (ho : EvX W K tl Γ (.adr l)) (hm : (l, ns.map Dat.int) ∈ O) (S : S4 W K G1 G0 H0 Γ O σ G H) (I : Nat → List (Option Dat) → Prop) (h0 : I 0 Γ)
    (hs : ∀ G1 (i : Nat) n Γ' σ' G' H', ns[i]? = some n → I i Γ' → S4 W K G1 G0 H0 (Γ'.set j (some (.int n))) O σ' G' H' → tb { D with nx := fun σ H => ∃ Γ G, I (i + 1) Γ ∧ S4 W K G1 G0 H0 Γ O σ G H, ct := fun σ H => ∃ Γ G, I (i + 1) Γ ∧ S4 W K G1 G0 H0 Γ O σ G H, bk := D.nx } σ' H')
    (hd : ∀ Γ' σ' G' H', I ns.length Γ' → S4 W K G1 G0 H0 Γ' O σ' G' H' → D.nx σ' H') : tFor (iList K tl) (gName j) tb D σ H :=
  ho σ G H S.env S.ok _ fun v d G2 H2 s e r => by
    subst e
    cases r
    have S2 := S.step s
    have sq : ∀ {Γ' : List (Option Dat)} {σ' : L2.St} {G' H' : Hp}, S4 W K G2 G0 H0 Γ' O σ' G' H' → SqL K H' l (ns.map V.int) := fun {Γ' σ' G' H'} S' => by
      obtain ⟨xs, h1, h2⟩ := (S'.own l _ hm).at'
      have := h2.ints
      subst this
      exact l_of h1
    refine ⟨l, rfl, ⟨ns.map V.int, sq S2.here⟩, for_list (fun i σ' H' => ∃ Γ' G', I i Γ' ∧ S4 W K G2 G0 H0 Γ' O σ' G' H') ⟨Γ, G2, h0, S2.here⟩ (fun i σ' H' _ ⟨Γ', G', _, S'⟩ => sq S') (fun i x σ' H' hi ⟨Γ', G', hI, S'⟩ => ?_) (fun σ' H' ⟨Γ', G', hI, S'⟩ => hd Γ' σ' G' H' (by rw [List.length_map] at hI; exact hI) (S'.base S2.fr))⟩
    rw [List.getElem?_map] at hi
    obtain ⟨n, hn, rfl⟩ := Option.map_eq_some_iff.mp hi
    exact hs G2 i n Γ' _ G' H' hn hI (S'.set (.int n))
theorem q_forO {ns : List Int} {l : Addr} {tb : TS} (ho : EvX W K tl Γ (.adr l)) (hm : (l, ns.map Dat.int) ∈ O) (S : S4 W K G1 G0 H0 Γ O σ G H) (I : Nat → List (Option Dat) → Prop) (h0 : I 0 Γ)
    (hs : ∀ G1 (i : Nat) n Γ' σ' G' H', ns[i]? = some n → I i Γ' → S4 W K G1 G0 H0 (Γ'.set j (some (.int n))) O σ' G' H' → tb { D with nx := fun σ H => ∃ Γ G, I (i + 1) Γ ∧ S4 W K G1 G0 H0 Γ O σ G H, ct := fun σ H => ∃ Γ G, I (i + 1) Γ ∧ S4 W K G1 G0 H0 Γ O σ G H, bk := tz D } σ' H')
    (hd : ∀ Γ' σ' G' H', I ns.length Γ' → S4 W K G1 G0 H0 Γ' O σ' G' H' → tz D σ' H') : tSeq (tFor (iList K tl) (gName j) tb) tz D σ H := g_forO (D := { D with nx := tz D }) ho hm S I h0 hs hd
/-- for i, x in enumerate(a list that is known), the world's object changing -/
def WordO (x : Addr) (K : PySem.W.Frag) (G1 G0 H0 : Hp) (P : HO → List (Option Dat) → List (Addr × List Dat) → Prop) (σ : L2.St) (H : Hp) : Prop := ∃ o Γ O G, P o Γ O ∧ S4 (WO x o) K G1 G0 H0 Γ O σ G H
theorem q_forEnO {ds : List Dat} {j1 j2 : Nat} {tb : TS} (h : EvX (WO x o) K tl Γ (.lst ds)) (S : S4 (WO x o) K G1 G0 H0 Γ O σ G H) (I : Nat → HO → List (Option Dat) → List (Addr × List Dat) → Prop) (h0 : I 0 o Γ O)
    (hs : ∀ G1 (i : Nat) d o' Γ' O' σ' G' H', ds[i]? = some d → I i o' Γ' O' → S4 (WO x o') K G1 G0 H0 ((Γ'.set j1 (some (.int (i : Int)))).set j2 (some d)) O' σ' G' H' → tb { D with nx := WordO x K G1 G0 H0 (I (i + 1)), ct := WordO x K G1 G0 H0 (I (i + 1)), bk := tz D } σ' H')
    (hd : ∀ o' Γ' O' σ' G' H', I ds.length o' Γ' O' → S4 (WO x o') K G1 G0 H0 Γ' O' σ' G' H' → tz D σ' H') : tSeq (tFor (iEnum K (tCons tl tNil)) (gTup K 2 (gCons (gName j1) (gCons (gName j2) gNil))) tb) tz D σ H :=
  h σ G H S.env S.ok _ fun v d G2 H2 s e r => by
    subst e
    obtain ⟨a, xs, rfl, hx, r⟩ := r.lst_inv
    have S2 := S.step s
    have hl := r.length
    have hx2 := ex_l S2.ok.ex hx
    refine ⟨a, xs, rfl, hx2, fun i m σ' H' => m = xs.length - i ∧ i ≤ xs.length ∧ WordO x K G2 G0 H0 (I i) σ' H', ⟨xs.length, by omega, by omega, o, Γ, O, G2, h0, S2.here⟩, fun i m σ' H' ⟨hm, hi, o', Γ', O', G', hI, S'⟩ => ?_⟩
    have hx3 : SqL K H' a xs := ex_l (S'.fr.trans S'.ok.ex) hx
    by_cases hlt : i < xs.length
    · refine .inr ⟨⟨xs, xs[i], hx3, List.getElem?_eq_getElem hlt⟩, WordO x K G2 G0 H0 (I (i + 1)), fun σ2 H2 hw => ⟨xs.length - (i + 1), by omega, rfl, hlt, hw⟩, fun u H3 ⟨T, y, ex, hT, eH, hy⟩ => ?_⟩
      subst eH ex
      have hyi := hy xs hx3
      obtain ⟨d, hd', rd⟩ := r.getV hyi
      have st : Stp (WO x o') G' H' (upd G' T (.tup [.int (i : Nat), y])) (upd H' T (.tup [.int (i : Nat), y])) := Stp.new S'.ok hT
      have S3 := S'.step st
      refine ⟨T, _, rfl, t_of upd_same, rfl, _, _, rfl, _, _, rfl, rfl, ?_⟩
      exact hs G2 i d o' Γ' O' _ _ _ hd' hI (((S3.set (i := j1) (.int _)).set (i := j2) (rd.mono (S'.fr.trans st.gg))))
    · have e : i = xs.length := by omega
      subst e
      refine .inl ⟨⟨xs, hx3, Nat.le_refl _⟩, hd o' Γ' O' σ' G' H' (by rw [← hl]; exact hI) (S'.base S2.fr)⟩
end
end Ly

set_option maxHeartbeats 4000000
/-! # [e for x, y in zip(us, vs)], us and vs tuples of one length -/
namespace Ly
open PySem L2 PySem.Spec PyProof.Rows
section
variable {W : Wd} {K : PySem.W.Frag} {Γ : List (Option Dat)} {ta tc te tl tv tn : TE} {tt : TT} {tA : TA} {G1 G0 H0 G H : Hp} {O : List (Addr × List Dat)} {σ : L2.St} {D : Ends} {tz : TS}
theorem cm_grow {Dl T : Addr} {A : List Dat → Prop} {H' : Hp} {o : HO} (k : Ok W G H) (hT : H' T = none) (p : Cm W K G H Dl A H') : Cm W K G H Dl A (upd H' T o) := by
  obtain ⟨G', xs, ds, s, hD, gD, h1, r, ha⟩ := p
  exact ⟨G', xs, ds, s.trans (Stp.grow (s.ok k) (Ex.new hT)), hD, gD, by rw [upd_ne (ne_of_none h1 hT)]; exact h1, r, ha⟩
theorem wipe2 {σ : L2.St} {i j : Nat} {x y : Option V} : L2.wipe (((L2.wipe σ [i, j]).set i x).set j y) [i, j] = L2.wipe σ [i, j] := by
  show (((((σ.set j none).set i none).set i x).set j y).set j none).set i none = (σ.set j none).set i none
  apply List.ext_getElem?
  intro n
  simp only [List.getElem?_set, List.length_set]
  by_cases h1 : j = n <;> by_cases h2 : i = n <;> simp [h1, h2]
theorem n_lcZ {us vs : List Dat} {i j : Nat} {R : List Dat → Prop} (hl : us.length = vs.length) (A : Nat → List Dat → Prop) (h : EvAX W K tA Γ [.tup us, .tup vs]) (h0 : A 0 [])
    (ht : ∀ n x y, us[n]? = some x → vs[n]? = some y → Tn W K tt te (((wipeG Γ [i, j]).set i (some x)).set j (some y)) (A n) (A (n + 1))) (hR : ∀ ds, A us.length ds → R ds) :
    EvN W K (tLc (RZ.iZipA K tA) (gTup K 2 (gCons (gName i) (gCons (gName j) gNil))) tt te [i, j]) Γ R := fun σ G H n k Q q =>
  h σ G H n k _ fun ws ds G2 H2 s e r => by
    subst e
    cases r with
    | cons r1 r =>
      cases r with
      | cons r2 r =>
        cases r
        obtain ⟨a, xs, rfl, ha, r1⟩ := r1.tup_inv
        obtain ⟨b, ys, rfl, hb, r2⟩ := r2.tup_inv
        have k2 := s.ok k
        have l1 := r1.length
        have l2 := r2.length
        refine ⟨a, b, xs, ys, rfl, .inr ⟨ex_t k2.ex ha, ex_t k2.ex hb, fun Dl hD => ⟨fun m c H' => c = us.length - m ∧ m ≤ us.length ∧ Cm W K G2 H2 Dl (A m) H', ⟨us.length, by omega, by omega, cm_start k2 hD h0⟩, fun m c H' ⟨hm, hi, p⟩ => ?_⟩⟩⟩
        have sx : SqT K H' a xs ∧ SqT K H' b ys := by
          obtain ⟨G', _, _, st, _⟩ := p
          exact ⟨ex_t (st.gg.trans (st.ok k2).ex) ha, ex_t (st.gg.trans (st.ok k2).ex) hb⟩
        by_cases hlt : m < us.length
        · have hx : xs[m]? = some xs[m] := List.getElem?_eq_getElem (by omega)
          have hy : ys[m]? = some ys[m] := List.getElem?_eq_getElem (by omega)
          refine .inr ⟨⟨xs, ys, _, _, sx.1, sx.2, hx, hy⟩, Cm W K G2 H2 Dl (A (m + 1)), fun H3 hw => ⟨us.length - (m + 1), by omega, rfl, hlt, hw⟩, fun v H3 ⟨T, x, y, ev, hT, eH, f1, f2⟩ => ?_⟩
          subst ev eH
          obtain ⟨dx, hdx, rx⟩ := r1.getV (f1 xs sx.1)
          obtain ⟨dy, hdy, ry⟩ := r2.getV (f2 ys sx.2)
          refine ⟨T, _, rfl, t_of upd_same, rfl, _, _, rfl, _, _, rfl, rfl, ?_⟩
          exact ⟨wipe2, cm_turn k2 (fun G' e => (((n.mono (s.gg.trans e)).wipe [i, j]).set (rx.mono e)).set (ry.mono e)) (cm_grow k2 hT p) (ht m dx dy hdx hdy)⟩
        · have e : m = us.length := by omega
          subst e
          exact .inl ⟨⟨xs, ys, sx.1, sx.2, .inl (by omega)⟩, cm_end p fun p xs ds G3 H3 s3 h0 g3 h3 r a => q p xs ds G3 H3 (s.trans s3) (back s h0).1 g3 h3 r (hR ds a)⟩
end
end Ly

set_option maxHeartbeats 4000000
/-! # slices, comprehensions with a test and an element of its own -/
namespace Ly
open PySem L2 PySem.Spec PyProof.Rows
section
variable {W : Wd} {K : PySem.W.Frag} {Γ : List (Option Dat)} {ta tc te tl tv tn : TE} {tt : TT} {tA : TA} {G1 G0 H0 G H : Hp} {O : List (Addr × List Dat)} {σ : L2.St} {D : Ends} {tz : TS}
theorem cutD_mid (ds : List Dat) {i j : Nat} (h : i ≤ j) (hj : j ≤ ds.length) : cutD ds (some (i : Int)) (some (j : Int)) = (ds.drop i).take (j - i) := by
  unfold cutD
  rw [HT.sIx_nat, HT.sIx_nat, show min i ds.length = i by omega, show min j ds.length = j by omega]
theorem cutD_last (ds : List Dat) : cutD ds none (some (-1)) = ds.take (ds.length - 1) := by
  unfold cutD
  have e : HT.sIx ds.length ds.length (some (-1)) = ds.length - 1 := by
    unfold HT.sIx
    simp
    try omega
  rw [HT.sIx_none, e, List.drop_zero, Nat.sub_zero]
/-- [g x for x in a list if p x] -/
theorem n_lcLF {α : Type} {j : Nat} {us : List α} {f g : α → Dat} {p : α → Bool} (h : EvX W K tl Γ (.lst (us.map f))) (hl : us.length < 100000) (ht : ∀ x ∈ us, EvBX W K tt ((wipeG Γ [j]).set j (some (f x))) (p x)) (he : ∀ x ∈ us, p x = true → EvX W K te ((wipeG Γ [j]).set j (some (f x))) (g x)) :
    EvN W K (tLc (iList K tl) (gName j) tt te [j]) Γ (· = (us.filter p).map g) :=
  n_lcL (fun i ds => ds = ((us.take i).filter p).map g) h rfl (fun i d hd => by
    rw [List.getElem?_map] at hd
    cases e : us[i]? with
    | none =>
      rw [e] at hd
      cases hd
    | some x =>
      rw [e] at hd
      have ed : f x = d := Option.some.inj hd
      subst ed
      have hx := List.mem_of_getElem? e
      intro ds e2
      refine ⟨by
        rw [e2, List.length_map]
        have := (List.filter_sublist (p := p) (l := us.take i)).length_le
        rw [List.length_take] at this
        omega, _, ht x hx, fun e3 => (he x hx e3.symm).imp fun d ed => ?_, fun e3 => ?_⟩
      · rw [e2, ed, List.take_succ, e]
        simp [List.filter_append, ← e3]
      · rw [e2, List.take_succ, e]
        simp [List.filter_append, ← e3]) fun ds e => by
    rw [List.length_map, List.take_length] at e
    exact e
/-- [i for i in range(n) if p i] -/
theorem n_lcRF {j n : Nat} {g : Nat → Dat} {p : Nat → Bool} (h : EvAX W K tA Γ [.int (n : Int)]) (hn : n ≤ 10000) (ht : ∀ i, i < n → EvBX W K tt ((wipeG Γ [j]).set j (some (.int (i : Int)))) (p i)) (he : ∀ i, i < n → p i = true → EvX W K te ((wipeG Γ [j]).set j (some (.int (i : Int)))) (g i)) :
    EvN W K (tLc (iRng1 tA) (gName j) tt te [j]) Γ (· = ((List.range n).filter p).map g) :=
  n_lcR (fun m i ds => ds = (((List.range n).take i).filter p).map g) (h.imp fun ds e => ⟨(n : Int), e, by omega, rfl, fun i hi => by
      have hi : i < n := by omega
      have hr : (List.range n)[i]? = some i := List.getElem?_range hi
      intro ds e2
      refine ⟨by
        rw [e2, List.length_map]
        have := (List.filter_sublist (p := p) (l := (List.range n).take i)).length_le
        have h2 : ((List.range n).take i).length ≤ n := by rw [List.length_take, List.length_range]; omega
        omega, _, ht i hi, fun e3 => (he i hi e3.symm).imp fun d ed => ?_, fun e3 => ?_⟩
      · rw [e2, ed, List.take_succ, hr]
        simp [List.filter_append, ← e3]
      · rw [e2, List.take_succ, hr]
        simp [List.filter_append, ← e3], fun ds e => by
    rw [Int.toNat_natCast, List.take_of_length_le (by simp)] at e
    exact e⟩)
end
end Ly

set_option maxHeartbeats 4000000
/-! # a dict of own lists: for each key the places where it stood, in order -/
namespace Ly
open PySem L2 PySem.Spec PyProof.Rows
section
variable {κ : Type} [DecidableEq κ] {f : Nat → κ} {n : Nat} {vs : List (κ × V)} {O O2 : List (Addr × List Dat)} {k : κ} {l : Addr}
def ixs (f : Nat → κ) (n : Nat) (k : κ) : List Nat := (List.range n).filter fun i => decide (f i = k)
def ixI (f : Nat → κ) (n : Nat) (k : κ) : List Int := (ixs f n k).map fun (i : Nat) => (i : Int)
theorem ixs_mem {i : Nat} : i ∈ ixs f n k ↔ i < n ∧ f i = k := by
  unfold ixs
  rw [List.mem_filter, List.mem_range, decide_eq_true_eq]
theorem ixs_succ : ixs f (n + 1) k = if f n = k then ixs f n k ++ [n] else ixs f n k := by
  unfold ixs
  rw [List.range_succ, List.filter_append]
  by_cases h : f n = k <;> simp [h]
theorem ixs_len : (ixs f n k).length ≤ n := by
  unfold ixs
  have := (List.filter_sublist (p := fun i => decide (f i = k)) (l := List.range n)).length_le
  rwa [List.length_range] at this
theorem ixI_len : (ixI f n k).length ≤ n := by
  unfold ixI
  rw [List.length_map]
  exact ixs_len
/-- places before one in the list are lesser -/
theorem ixs_lt {j : Nat} {x : Nat} (h : (ixs f n k)[j]? = some x) {i : Nat} (hi : i < x) (hf : f i = k) : ∃ j2, j2 < j ∧ (ixs f n k)[j2]? = some i := by
  have hs : (ixs f n k).Pairwise (· < ·) := List.Pairwise.filter _ List.pairwise_lt_range
  have hx := List.mem_of_getElem? h
  have hm : i ∈ ixs f n k := ixs_mem.mpr ⟨by have := (ixs_mem.mp hx).1; omega, hf⟩
  obtain ⟨j2, h2⟩ := List.mem_iff_getElem?.mp hm
  refine ⟨j2, ?_, h2⟩
  obtain ⟨l1, e1⟩ := List.getElem?_eq_some_iff.mp h
  obtain ⟨l2, e2⟩ := List.getElem?_eq_some_iff.mp h2
  rcases Nat.lt_trichotomy j2 j with z | z | z
  · exact z
  · subst z
    omega
  · have := List.pairwise_iff_getElem.mp hs j j2 l1 l2 z
    omega
structure Ix (f : Nat → κ) (n : Nat) (vs : List (κ × V)) (O : List (Addr × List Dat)) : Prop where
  ref : ∀ k v, valV vs k = some v → ∃ l, v = .ref l ∧ (l, dI (ixI f n k)) ∈ O
  non : ∀ k, valV vs k = none → ixs f n k = []
  inj : ∀ k k2 l, valV vs k = some (.ref l) → valV vs k2 = some (.ref l) → k = k2
theorem Ix.nil : Ix f 0 ([] : List (κ × V)) O := by
  refine ⟨fun k v h => ?_, fun k _ => rfl, fun k k2 l h => ?_⟩
  · cases h
  · cases h
theorem Ix.perm (h : Ix f n vs O) (p : ∀ x, x ∈ O → x ∈ O2) : Ix f n vs O2 := ⟨fun k v e => by
  obtain ⟨l, e1, e2⟩ := h.ref k v e
  exact ⟨l, e1, p _ e2⟩, h.non, h.inj⟩
theorem valV_new {v : V} (h : valV vs k = none) (k2 : κ) : valV (putK vs k v) k2 = if k2 = k then some v else valV vs k2 := by
  rw [put_new h]
  unfold valV at *
  rw [List.find?_append]
  split
  · rename_i e
    subst e
    have h2 : vs.find? (fun kv => decide (kv.1 = k2)) = none := by
      cases q : vs.find? (fun kv => decide (kv.1 = k2)) with
      | none => rfl
      | some x =>
        rw [q] at h
        cases h
    rw [h2]
    simp
  · rename_i e
    have : ([(k, v)] : List (κ × V)).find? (fun kv => decide (kv.1 = k2)) = none := by
      simp [show ¬ k = k2 from fun z => e z.symm]
    rw [this, Option.or_none]
theorem Ix.new (h : Ix f n vs O) (hn : valV vs k = none) (hd : (((l, []) :: O : List (Addr × List Dat)).map Prod.fst).Nodup) : Ix f n (putK vs k (.ref l)) ((l, []) :: O) := by
  rw [List.map_cons, List.nodup_cons] at hd
  have far : ∀ k2 l2, valV vs k2 = some (.ref l2) → l2 ≠ l := fun k2 l2 e z => by
    obtain ⟨l3, e3, m3⟩ := h.ref k2 _ e
    cases e3
    rw [z] at m3
    exact hd.1 (List.mem_map.mpr ⟨_, m3, rfl⟩)
  refine ⟨fun k2 v e => ?_, fun k2 e => ?_, fun k2 k3 l2 e2 e3 => ?_⟩
  · rw [valV_new hn] at e
    split at e
    · rename_i ek
      subst ek
      cases e
      have : ixI f n k2 = [] := by
        unfold ixI
        rw [h.non k2 hn]
        rfl
      exact ⟨l, rfl, by rw [this]; exact List.mem_cons_self⟩
    · obtain ⟨l2, e1, e2⟩ := h.ref k2 v e
      exact ⟨l2, e1, List.mem_cons_of_mem _ e2⟩
  · rw [valV_new hn] at e
    split at e
    · cases e
    · exact h.non k2 e
  · rw [valV_new hn] at e2 e3
    split at e2
    · rename_i h2
      cases e2
      split at e3
      · rename_i h3
        rw [h2, h3]
      · exact absurd rfl (far _ _ e3)
    · split at e3
      · cases e3
        exact absurd rfl (far _ _ e2)
      · exact h.inj _ _ _ e2 e3
theorem Ix.app (h : Ix f n vs ((l, dI (ixI f n k)) :: O)) (hk : valV vs k = some (.ref l)) (hf : f n = k) (hd : (((l, dI (ixI f n k)) :: O).map Prod.fst).Nodup) : Ix f (n + 1) vs ((l, dI (ixI f n k) ++ [.int (n : Int)]) :: O) := by
  rw [List.map_cons, List.nodup_cons] at hd
  refine ⟨fun k2 v e => ?_, fun k2 e => ?_, h.inj⟩
  · obtain ⟨l2, e1, e2⟩ := h.ref k2 v e
    subst e1
    refine ⟨l2, rfl, ?_⟩
    by_cases ek : k2 = k
    · subst ek
      have el := Option.some.inj (hk.symm.trans e)
      injection el with el
      rw [← el]
      unfold ixI
      rw [ixs_succ, if_pos hf, List.map_append]
      show (l, List.map Dat.int (_ ++ _)) ∈ _
      rw [List.map_append]
      exact List.mem_cons_self
    · have nl : l2 ≠ l := fun z => ek (h.inj _ _ _ (by rw [← z]; exact e) hk)
      unfold ixI
      rw [ixs_succ, if_neg (by rw [hf]; exact fun z => ek z.symm)]
      rcases List.mem_cons.mp e2 with z | z
      · exact absurd (congrArg Prod.fst z) nl
      · exact List.mem_cons_of_mem _ z
  · rw [ixs_succ, if_neg]
    · exact h.non k2 e
    · rw [hf]
      intro z
      rw [← z, hk] at e
      cases e
theorem own_split {O : List (Addr × List Dat)} {x : Addr × List Dat} (h : x ∈ O) : ∃ O2, O.Perm (x :: O2) := by
  obtain ⟨s, t, e⟩ := List.append_of_mem h
  exact ⟨s ++ t, e ▸ List.perm_middle⟩
end
section
variable {W : Wd} {K : PySem.W.Frag} {Γ : List (Option Dat)} {ta tc te tl tv tn : TE} {tt : TT} {tA : TA} {G1 G0 H0 G H : Hp} {O : List (Addr × List Dat)} {σ : L2.St} {D : Ends} {tz : TS} {x : Addr} {i j n : Nat}
theorem q_setdT1 {f : Nat → List Key} {ns : List Int} {vs : List (List Key × V)} (ix : Ix f n vs O) (hi : Γ[i]? = some (some (.adr x))) (hk : EvAX (WO x (.dT vs)) K tA Γ (ns.map Dat.int)) (hkl : ns.length ≤ 1000) (hl : vs.length < 100000) (S : S4 (WO x (.dT vs)) K G1 G0 H0 Γ O σ G H)
    (k : ∀ l vs2 O2 σ2 G2 H2, valV vs2 (iK ns) = some (.ref l) → vs2.length ≤ vs.length + 1 → Ix f n vs2 O2 → S4 (WO x (.dT vs2)) K G1 G0 H0 (Γ.set j (some (.adr l))) O2 σ2 G2 H2 → tz D σ2 H2) : tSeq (tAsg (tDSetT (tVar i) (tTup tA) (tLst tNil)) (gName j)) tz D σ H :=
  q_setdT hi hk hkl hl (fun v hv => by
    obtain ⟨l, e, _⟩ := ix.ref _ v hv
    exact ⟨l, e⟩) S (fun l σ2 G2 H2 h S2 => k l vs O σ2 G2 H2 h (Nat.le_succ _) ix S2) fun l σ2 G2 H2 h S2 => k l _ _ σ2 G2 H2 (by rw [valV_new h, if_pos rfl]) (length_putK _ _ _) (ix.new h S2.nd) S2
theorem q_setdK1 {f : Nat → Key} {m : Int} {vs : List (Key × V)} (ix : Ix f n vs O) (hi : Γ[i]? = some (some (.adr x))) (hk : EvX (WO x (.dK vs)) K te Γ (.int m)) (hl : vs.length < 100000) (S : S4 (WO x (.dK vs)) K G1 G0 H0 Γ O σ G H)
    (k : ∀ l vs2 O2 σ2 G2 H2, valV vs2 (Sum.inl m : Key) = some (.ref l) → vs2.length ≤ vs.length + 1 → Ix f n vs2 O2 → S4 (WO x (.dK vs2)) K G1 G0 H0 (Γ.set j (some (.adr l))) O2 σ2 G2 H2 → tz D σ2 H2) : tSeq (tAsg (tDSetd (tVar i) te (tLst tNil)) (gName j)) tz D σ H :=
  q_setdK hi hk hl (fun v hv => by
    obtain ⟨l, e, _⟩ := ix.ref _ v hv
    exact ⟨l, e⟩) S (fun l σ2 G2 H2 h S2 => k l vs O σ2 G2 H2 h (Nat.le_succ _) ix S2) fun l σ2 G2 H2 h S2 => k l _ _ σ2 G2 H2 (by rw [valV_new h, if_pos rfl]) (length_putK _ _ _) (ix.new h S2.nd) S2
/-- y = {}, known from then on -/
theorem q_newDF (S : S4 W K G1 G0 H0 Γ O σ G H) (k : ∀ σ2 G2 H2, S4 W K G1 G0 H0 (Γ.set i (some (.dct []))) O σ2 G2 H2 → tz D σ2 H2) : tSeq (tAsg tDNewT (gName i)) tz D σ H := fun p hp => k _ _ _ ((S.step (Stp.new (o := .dT []) S.ok hp)).set (.dct (vs := []) upd_same .nil))
end
end Ly

set_option maxHeartbeats 4000000
/-! # t.count(y), t a tuple; a written dict with texts as keys, of the body's own; d[k] += n -/
namespace Ly
open PySem L2 PySem.Spec PyProof.Rows
/-- t.count(y), of data, t a tuple -/
def rCntT (K : PySem.W.Frag) : V → List V → Hp → VK → Prop := fun x xs H Q => ∃ (p : Addr) (ys : List V) (y : V) (ds : List PyData) (d : PyData), x = .ref p ∧ xs = [y] ∧ SqT K H p ys ∧ DpAll K H ys ds ∧ Dp K H y d ∧ PyData.plainAll ds = true ∧ d.plain = true ∧ d.depth ≤ 64 ∧ Q (.int ((ds.countP fun e => PyData.eqv e d : Nat) : Int)) H
section
variable {X : Cx}
theorem mt_countT (hu : X.A.units + 80 < cLine) : MtR X "tuple.count" (rCntT X.K) := by
  intro pins s σ H x xs v us Q I rx rxs h
  obtain ⟨p, ys, y, ds, d, rfl, rfl, hs, h1, h2, h3, h4, h5, q⟩ := h
  cases rx
  obtain ⟨u, rfl, ru⟩ := rxs.one
  obtain ⟨its, rv, pt, hlen⟩ := I.tuple hs
  obtain ⟨as, r1⟩ := Dp.readsAll I ds ys its h1 rv
  obtain ⟨bs, r2⟩ := Dp.reads I d y u h2 ru
  exact SeqAt.count_tuple_data (vs := its.toArray) (show s.heap.IsTuple p its.toArray from pt) r1 r2 h3 h4 (by have := Nat.min_le_right (PyData.depthAll ds) d.depth; omega) ⟨.int _, H, I.tok _, ⟨_, rfl⟩, q⟩
/-- a tuple that is known to the object, without a dict -/
def FrzT (H : Hp) (p : Addr) (ys : List V) : Prop := ∃ ob : Obj, H p = some (.frz ob (.tup ys)) ∧ ob.cls = .type "tuple" ∧ ob.dict = none
/-- a tuple's method -/
def tTM (r : V → List V → Hp → VK → Prop) (to : TE) (t : TA) : TE := fun σ H Q => to σ H fun x H1 => (∃ p ys, x = .ref p ∧ FrzT H1 p ys) ∧ t σ H1 fun xs H2 => r x xs H2 Q
theorem pe_tm {o e : Expr} {es : List Expr} {to : TE} {t : TA} {name : Str} {apos cpos : Pos} {id : String} {r : V → List V → Hp → VK → Prop}
    (slot : Slot "tuple" name id) (hty : typeOf (.builtin id) = pure (.type "method_descriptor")) (hm : MtR X id r) (ho : PE X o to) (ha : PA X (e :: es) t)
    (h1 : attributeBase o name X.env (eval o X.env) = eval o X.env := by rfl)
    (h2 : ((backTo cpos (starEach (e :: es) X.env)).all (fun x => !x.1) && (backToKw cpos (keywordEach [] X.env)).all (fun x => x.1.isSome) && decide ((e :: es).length + ([] : List Keyword).length + (if ([] : List Keyword).isEmpty then 0 else 1) < 30)) = true := by rfl)
    (h3 : (apos.endLine == cpos.line) = true := by rfl) (h4 : starEach (e :: es) X.env = (false, eval e X.env) :: starEach es X.env := by rfl) (h5 : (backTo cpos (starEach es X.env)).any (·.1) = false := by rfl) :
    PE X (.Call (.Attribute o name apos) (e :: es) [] cpos) (tTM r to t) := by
  refine ⟨fun pins s σ H Q I h => wpAny_Call_method_late h1 h2 h3 rfl (thn (ho.run pins s σ H _ I h) fun v s1 ⟨x, H1, I1, r1, ⟨p, ys, ex, ob, hp, g2, g3⟩, q1⟩ => ?_)⟩
  subst ex
  obtain rfl : v = Value.ref p := r1
  obtain ⟨g1, _⟩ := I1.hok p _ hp
  refine ⟨"tuple", id, PySem.F.plainAttrs_tuple, slot, hty, ⟨ob, g1, g2⟩, (fun a ea => by
    cases ea
    exact ⟨ob, g1, g3⟩), ?_⟩
  have hA := ha.run cpos pins s1 σ H1 _ I1 q1
  rw [h4] at hA ⊢
  exact Calls.callWith_builtin (by
    show (false || (backTo cpos (starEach es X.env)).any (·.1)) = false
    rw [h5]
    rfl) (Calls.evalArgs_plain (thn hA fun us s2 ⟨vs, H2, I2, r2, q2⟩ => hm pins s2 σ H2 (.ref p) vs (.ref p) us Q I2 rfl r2 q2))
/-- t[::-1], the new tuple known to the object -/
def tRevTF (K : PySem.W.Frag) (te : TE) : TE := fun σ H Q => te σ H fun x H1 => ∃ a xs, x = .ref a ∧ SqT K H1 a xs ∧ ∀ p ob, H1 p = none → ob.cls = .type "tuple" → ob.dict = none → Q (.ref p) (upd H1 p (.frz ob (.tup xs.reverse)))
theorem pe_revTF {e : Expr} {te : TE} {k : Nat} {p1 p2 p3 pos : Pos} (he : PE X e te) : PE X (.Subscript e (.Slice none none (some (.UnaryOp .USub (.Constant (.int 1) k p1) p2)) p3) pos) (tRevTF X.K te) := by
  refine ⟨fun pins s σ H Q I h => ?_⟩
  refine Subscript_ (thn (he.run pins s σ H _ I h) fun v s1 ⟨x, H1, I1, r1, q1⟩ => ?_)
  obtain ⟨a, xs, ex, hx, q⟩ := q1
  subst ex
  cases r1
  have hst : PO X (some (.UnaryOp .USub (.Constant (.int 1) k p1) p2)) (tPart (tUn (rU fun i => .int (-i)) (tC (.int 1)))) := po_some (pe_un un_neg pe_int)
  refine wpAny_Slice (thn (po_none.run pins s1 σ H1 (fun o H2 => o = none ∧ H2 = H1) I1 ⟨rfl, rfl⟩) fun vl s2 ⟨l, H2, I2, pl, el, e2⟩ => ?_)
  subst el e2
  refine thn (po_none.run pins s2 σ H2 (fun o H3 => o = none ∧ H3 = H2) I2 ⟨rfl, rfl⟩) fun vu s3 ⟨u, H3, I3, pu, eu, e3⟩ => ?_
  subst eu e3
  refine thn (hst.run pins s3 σ H3 (fun o H4 => o = some (-1) ∧ H4 = H3) I3 ⟨1, rfl, -1, rfl, rfl, rfl⟩) fun vs s4 ⟨o, H4, I4, ps, eo, e4⟩ => ?_
  subst eo e4
  have I5 : Inv X pins σ H4 { s4 with heap := s4.heap.push { cls := .type "slice", data := .fields #[vl, vu, vs] } } := I4.kept (t' := s4.toks) fun b ob q => Heap.get?_push_of_some _ q
  obtain ⟨its, r, ht, hz⟩ := I5.tuple hx
  have hlen := r.length
  show wpAny (model X.prog X.w) X.A (subscriptTail e (.Slice none none (some (.UnaryOp .USub (.Constant (.int 1) k p1) p2)) p3) (.ref a) (.ref s4.heap.objs.size)) (EP X pins σ Q) X.xe { s4 with heap := s4.heap.push { cls := .type "slice", data := .fields #[vl, vu, vs] } }
  refine tail_any (ops := [.ref a, .ref s4.heap.objs.size]) ht.typeIs PyProof.Rows.slot_tuple_getitem.lookup ?_ (by with_unfolding_all rfl)
  refine getItem_tuple_rev ht (Heap.IsSliceOf.new _ vl vu vs) pl pu ps ?_ (by rw [List.size_toArray]; omega)
  refine ⟨.ref _, _, I5.laid (t' := s4.toks) (o := .frz _ (.tup xs.reverse)) (fun b ob q => Heap.get?_push_of_some _ q) (Nat.le_refl _) ⟨Heap.get?_push_size _ rfl, by rw [List.length_reverse]; exact hz, _, r.reverse, IsTup.new _ _⟩, rfl, q _ _ (I5.hok.fresh (Nat.le_refl _)) rfl rfl⟩
end
section
variable {W : Wd} {K : PySem.W.Frag} {Γ : List (Option Dat)} {ta te tl tv tn : TE} {tA : TA} {G1 G0 H0 G H : Hp} {O : List (Addr × List Dat)} {σ : L2.St} {D : Ends} {tz : TS} {x : Addr} {i j : Nat}
abbrev dispC (kvs : List (Key × V)) : List (TE × TE) := kvs.map fun kv => (tC (kV kv.1), tC kv.2)
theorem tPairs_c : ∀ (kvs : List (Key × V)) (σ : L2.St) (H : Hp) (Q : List (V × V) → Hp → Prop), Q (kvs.map fun kv => (kV kv.1, kv.2)) H → tPairs (dispC kvs) σ H Q
  | [], _, _, _, q => q
  | (k, v) :: kvs, σ, H, Q, q => tPairs_c kvs σ H (fun ps H3 => Q ((kV k, v) :: ps) H3) q
/-- d = {k: v, ..}, written -/
theorem q_newDisp (kvs : List (Key × V)) (h15 : kvs.length ≤ 15) (S : S4 Wd0 K G1 G0 H0 Γ [] σ G H) (k : ∀ x σ2 H2, H0 x = none → S4 (WO x (.dK (mergeK [] kvs))) K G1 G0 H0 (Γ.set i (some (.adr x))) [] σ2 G H2 → tz D σ2 H2) : tSeq (tAsg (tDisp (dispC kvs)) (gName i)) tz D σ H := fun p hp => by
  have z : tSeq (tAsg tDNewK (gName i)) (fun _ σ2 H2 => ∀ H3, H3 = upd H2 p (.dK (mergeK [] kvs)) → tz D σ2 H3) D σ H → True := fun _ => trivial
  refine tPairs_c kvs σ _ _ ⟨upd_same, kvs, rfl, h15, ?_⟩
  have gp : G p = none := by
    cases e : G p with
    | none => rfl
    | some u =>
      rw [S.ok.ex p u e] at hp
      cases hp
  have h0 : H0 p = none := (back S.stp hp).1
  have S2 := S.set (i := i) (Rep.adr p)
  have eg : ∀ o, Ex G (upd (upd H p (.dK [])) p o) := fun o a u e => by
    rw [upd_ne (ne_of_none e gp), upd_ne (ne_of_none e gp)]
    exact S.ok.ex a u e
  refine k p _ _ h0 ⟨S2.env, ⟨eg _, upd_same, fun a ha => by rw [show a = p from ha]; exact gp⟩, ⟨S.stp.gg, eg _, fun a u hm e => ?_, S.stp.nw, upd_same⟩, (fun _ _ hm => nomatch hm), List.nodup_nil, S2.fr⟩
  rw [upd_ne hm, upd_ne hm]
  exact S.stp.hh a u (fun z => z) e
/-- d[k] -/
theorem v_dgetO {vs : List (Key × V)} {k : Str} {n : Int} (hi : Γ[i]? = some (some (.adr x))) (hk : EvX (WO x (.dK vs)) K te Γ (.str k)) (hv : valV vs (Sum.inr k) = some (.int n)) : EvX (WO x (.dK vs)) K (tDGet (tVar i) te) Γ (.int n) := fun σ G H env ok Q q => by
  obtain ⟨v, e1, e2⟩ := env.at' i _ hi
  have e3 := e2.adr_inv
  subst e3
  refine ⟨.ref x, e1, ?_⟩
  refine hk σ G H env ok _ fun y d G2 H2 s e r => ?_
  subst e
  cases r
  have hx : H2 x = some (.dK vs) := (s.ok ok).inv
  exact ⟨x, .int n, rfl, by rw [← hv]; exact DGet.k (k := (Sum.inr k : Key)) hx, q _ _ G2 H2 s rfl (.int n)⟩
/-- d[k] += n -/
theorem q_daugO {vs : List (Key × V)} {k : Str} {n m : Int} (hi : Γ[i]? = some (some (.adr x))) (hk : EvX (WO x (.dK vs)) K te Γ (.str k)) (hn : EvX (WO x (.dK vs)) K tv Γ (.int m)) (hv : valV vs (Sum.inr k) = some (.int n)) (hl : vs.length < 100000) (S : S4 (WO x (.dK vs)) K G1 G0 H0 Γ O σ G H)
    (kk : ∀ G2 H2, S4 (WO x (.dK (putK vs (Sum.inr k : Key) (.int (n + m))))) K G1 G0 H0 Γ O σ G2 H2 → tz D σ H2) : tSeq (sDAug (tVar i) te tv rAdd) tz D σ H := by
  obtain ⟨v, e1, e2⟩ := S.env.at' i _ hi
  have e3 := e2.adr_inv
  subst e3
  refine ⟨.ref x, e1, ?_⟩
  refine hk σ G H S.env S.ok _ fun y d G2 H2 s e r => ?_
  subst e
  cases r
  have S2 := S.step s
  refine ⟨x, .int n, rfl, by rw [← hv]; exact DGet.k (k := (Sum.inr k : Key)) S2.ok.inv, ?_⟩
  refine hn σ G2 H2 S2.env S2.ok _ fun y2 d2 G3 H3 s3 e3 r3 => ?_
  subst e3
  cases r3
  have S3 := S2.step s3
  exact ⟨n, m, rfl, rfl, _, DPut.k (k := (Sum.inr k : Key)) S3.ok.inv (sz_lt hl), kk _ _ (S4.putO S3)⟩
/-- what gives a tuple that is known to the object: its data told by P -/
def EvF (W : Wd) (K : PySem.W.Frag) (te : TE) (Γ : List (Option Dat)) (ds : List Dat) : Prop := ∀ σ G H, Env K G σ Γ → Ok W G H → ∀ Q : VK, (∀ p xs G2 H2, Stp W G H G2 H2 → FrzT G2 p xs → Reps K G2 xs ds → Q (.ref p) H2) → te σ H Q
theorem v_countF {ds : List Dat} {d : Dat} {n m : Nat} (ha : EvF W K ta Γ ds) (hb : EvX W K te Γ d) (h1 : Pls n ds) (h2 : Pl m d) (hm : m ≤ 64) : EvX W K (tTM (rCntT K) ta (tCons te tNil)) Γ (.int ((ds.countP fun e => PyData.eqv (toPy e) (toPy d) : Nat) : Int)) := fun σ G H env k Q q =>
  ha σ G H env k _ fun a xs G2 H2 s ⟨ob, hp, o1, o2⟩ r => by
    have k2 := s.ok k
    refine ⟨⟨a, xs, rfl, ob, k2.ex _ _ hp, o1, o2⟩, ?_⟩
    refine hb σ G2 H2 (env.mono s.gg) k2 _ fun y dy G3 H3 s3 ey ry => ?_
    subst ey
    have s13 := s.trans s3
    have k3 := s13.ok k
    have hp3 : SqT K H3 a xs := .inl (.inr ⟨ob, k3.ex _ _ (s3.gg _ _ hp)⟩)
    refine ⟨a, xs, y, toPys ds, toPy dy, rfl, rfl, hp3, Reps.dp k3.ex n h1 (r.mono s3.gg), Rep.dp k3.ex m h2 ry, PyData.plainAll_of_canLay0 _ (h1.lay), PyData.plain_of_canLay0 _ h2.lay, Nat.le_trans h2.depth hm, ?_⟩
    have e : (toPys ds).countP (fun e => PyData.eqv e (toPy dy)) = ds.countP fun e => PyData.eqv (toPy e) (toPy dy) := by
      rw [toPys_map, List.countP_map]
      rfl
    rw [e]
    exact q _ _ G3 H3 s13 rfl (.int _)
end
end Ly

set_option maxHeartbeats 4000000
/-! # for over a range where the world's object changes; a, *b = a tuple, from a call that may raise -/
namespace Ly
open PySem L2 PySem.Spec PyProof.Rows
section
variable {W : Wd} {K : PySem.W.Frag} {Γ : List (Option Dat)} {ta te tl tv tn : TE} {tA : TA} {G1 G0 H0 G H : Hp} {O : List (Addr × List Dat)} {σ : L2.St} {D : Ends} {tz : TS} {x : Addr} {o : HO} {P : Dat → Prop} {Q : VK}
theorem q_for2O {lo hi : Int} {j : Nat} {tb : TS} (h : EvAX (WO x o) K tA Γ [.int lo, .int hi]) (h1 : -100000 ≤ lo ∧ lo ≤ 100000 ∧ -100000 ≤ hi ∧ hi ≤ 100000) (S : S4 (WO x o) K G1 G0 H0 Γ O σ G H) (I : Nat → HO → List (Option Dat) → List (Addr × List Dat) → Prop) (h0 : I 0 o Γ O)
    (hs : ∀ (i : Nat) o' Γ' O' σ' G' H', lo + i < hi → I i o' Γ' O' → S4 (WO x o') K G1 G0 H0 (Γ'.set j (some (.int (lo + i)))) O' σ' G' H' → tb { D with nx := WordO x K G1 G0 H0 (I (i + 1)), ct := WordO x K G1 G0 H0 (I (i + 1)), bk := tz D } σ' H')
    (hd : ∀ o' Γ' O' σ' G' H', I (hi - lo).toNat o' Γ' O' → S4 (WO x o') K G1 G0 H0 Γ' O' σ' G' H' → tz D σ' H') : tSeq (tFor (iRng2 tA) (gName j) tb) tz D σ H :=
  h σ G H S.env S.ok _ fun vs ds G2 H2 s e r => by
    subst e
    cases r with
    | cons r r0 =>
      cases r0 with
      | cons r' r0 =>
        cases r0
        cases r
        cases r'
        have S2 := S.step s
        exact ⟨lo, hi, rfl, ⟨by omega, by omega, by omega, by omega⟩, for_range (fun i σ H => WordO x K G1 G0 H0 (I i) σ H) ⟨o, Γ, O, G2, h0, S2⟩ (fun i σ' H' hi2 ⟨o', Γ', O', G', hI, S'⟩ => hs i o' Γ' O' _ G' H' (by omega) hI (S'.set (.int _))) (fun σ' H' ⟨o', Γ', O', G', hI, S'⟩ => hd o' Γ' O' σ' G' H' hI S')⟩
theorem go_leaveO (h0 : H0 x = none) (q : Go Wd0 K G0 H0 P Q) : Go (WO x o) K G0 H0 P Q := fun v d G2 H2 s pd r => q v d G2 H2 ⟨s.gg, s.gh, fun a u _ e => s.hh a u (fun z => by
    have z : a = x := z
    rw [z, h0] at e
    cases e) e, s.nw, trivial⟩ pd r
/-- a, *b = f(..) -/
theorem q_tupX1 {A : XSig} {i j : Nat} {ds : List Dat} {ot : Out} (h : EvAX W K tA Γ ds) (ha : A ds ot) (S : S4 W K G1 G0 H0 Γ O σ G H) {E : XK}
    (kv : ∀ P, ot = .val P → ∃ y us, (∀ d, P d → d = .tup (y :: us)) ∧ us.length ≤ 1000 ∧ ∀ σ2 G2 H2, S4 W K G1 G0 H0 ((Γ.set i (some y)).set j (some (.lst us))) O σ2 G2 H2 → tz D σ2 H2)
    (ke : ∀ C fs, ot = .err C fs → ∀ d G2 H2, S4 W K G1 G0 H0 Γ O σ G2 H2 → (fs = none → d = none) → (∀ f, fs = some f → ∃ a, d = some a ∧ H2 a = some (.xd f)) → E (.ref C) d H2) :
    tSeq (tAsg (tCall (spX Wd0 K A) [] E tA) (gTupS K 2 1 (gCons (gName i) (gCons (gName j) gNil)))) tz D σ H :=
  x_callP (E := E) h ha S (fun P eP v d G2 H2 S2 pd r => by
    obtain ⟨y, us, e, hz, k⟩ := kv P eP
    have ee := e d pd
    subst ee
    obtain ⟨a, xs, rfl, hs, rs⟩ := r.tup_inv
    cases rs with
    | @cons vx zs _ _ rx rs =>
      have hl := rs.length
      refine ⟨a, _, rfl, ex_t S2.ok.ex hs, by simp, by simp; omega, fun p hp => ?_⟩
      have e1 : (vx :: zs).length + 1 - 2 = zs.length := by simp
      rw [e1]
      have e2 : List.take zs.length (List.drop 1 (vx :: zs)) = zs := by simp
      have e3 : List.drop zs.length (List.drop 1 (vx :: zs)) = [] := by simp
      rw [e2, e3]
      have st := Stp.new S2.ok (o := .lst zs) hp
      have S3 := S2.step st
      have rl : Rep K (upd G2 p (.lst zs)) (.ref p) (.lst us) := .lst (l_of upd_same) (rs.mono st.gg)
      refine ⟨vx, [.ref p], rfl, .ref p, [], rfl, rfl, ?_⟩
      exact k _ _ _ ((S3.set (rx.mono st.gg)).set rl)) ke
end
end Ly

set_option maxHeartbeats 4000000
namespace K89
open PySem L2 Ly
def topS (i : Nat) : Stmt := PySem.Challenge.pw_translatory_k89_censuses.main.body.getD i (.Pass ⟨0, 0, 0, 0⟩)
abbrev s_refuse_negative : Stmt := topS 8
abbrev N_refuse_negative : List Str := ["number"]
theorem sc_refuse_negative : FnScope N_refuse_negative ["number"] (defScope s_refuse_negative) := ⟨rfl, rfl, rfl, by decide +kernel, rfl, by decide +kernel, by decide +kernel⟩
abbrev s_after : Stmt := topS 6
abbrev N_after : List Str := ["machine", "configuration", "count", "_", "following"]
theorem sc_after : FnScope N_after ["machine", "configuration", "count"] (defScope s_after) := ⟨rfl, rfl, rfl, by decide +kernel, rfl, by decide +kernel, by decide +kernel⟩
abbrev s_history : Stmt := topS 7
abbrev N_history : List Str := ["machine", "configuration", "count", "configurations", "_"]
theorem sc_history : FnScope N_history ["machine", "configuration", "count"] (defScope s_history) := ⟨rfl, rfl, rfl, by decide +kernel, rfl, by decide +kernel, by decide +kernel⟩
abbrev s_names_what_is_there : Stmt := topS 13
abbrev N_names_what_is_there : List Str := ["instruction", "count", "places", "_", "which", "targets", "place"]
abbrev s_Registers_init : Stmt := inClass (topS 12) 0
abbrev N_Registers_init : List Str := ["self", "count", "instructions", "places", "instruction"]
abbrev s_Registers_eq : Stmt := inClass (topS 12) 1
abbrev N_Registers_eq : List Str := ["self", "other"]
abbrev s_changed : Stmt := topS 14
abbrev N_changed : List Str := ["values", "which", "change"]
theorem sc_changed : FnScope N_changed ["values", "which", "change"] (defScope s_changed) := ⟨rfl, rfl, rfl, by decide +kernel, rfl, by decide +kernel, by decide +kernel⟩
abbrev s_Registers_step : Stmt := inClass (topS 12) 2
abbrev N_Registers_step : List Str := ["self", "configuration", "place", "values", "instruction", "_", "which", "following", "other"]
theorem sc_Registers_step : FnScope N_Registers_step ["self", "configuration"] (defScope s_Registers_step) := ⟨rfl, rfl, rfl, by decide +kernel, rfl, by decide +kernel, by decide +kernel⟩
abbrev s_are_rules : Stmt := topS 22
abbrev N_are_rules : List Str := ["rules", "states", "symbols", "state", "symbol", "written", "move", "following", "rule"]
theorem sc_are_rules : FnScope N_are_rules ["rules", "states", "symbols"] (defScope s_are_rules) := ⟨rfl, rfl, rfl, by decide +kernel, rfl, by decide +kernel, by decide +kernel⟩
abbrev s_Turing_init : Stmt := inClass (topS 19) 0
abbrev N_Turing_init : List Str := ["self", "states", "symbols", "rules", "rule"]
theorem sc_Turing_init : FnScope N_Turing_init ["self", "states", "symbols", "rules"] (defScope s_Turing_init) := ⟨rfl, rfl, rfl, by decide +kernel, rfl, by decide +kernel, by decide +kernel⟩
abbrev s_Turing_eq : Stmt := inClass (topS 19) 1
abbrev N_Turing_eq : List Str := ["self", "other"]
abbrev s_Turing_step : Stmt := inClass (topS 19) 2
abbrev N_Turing_step : List Str := ["self", "configuration", "state", "left", "here", "right", "rule", "_", "written", "move", "following"]
theorem sc_Turing_step : FnScope N_Turing_step ["self", "configuration"] (defScope s_Turing_step) := ⟨rfl, rfl, rfl, by decide +kernel, rfl, by decide +kernel, by decide +kernel⟩
abbrev s_Turing_rule : Stmt := inClass (topS 19) 3
abbrev N_Turing_rule : List Str := ["self", "state", "symbol", "rule"]
theorem sc_Turing_rule : FnScope N_Turing_rule ["self", "state", "symbol"] (defScope s_Turing_rule) := ⟨rfl, rfl, rfl, by decide +kernel, rfl, by decide +kernel, by decide +kernel⟩
abbrev s_without_end_blanks : Stmt := topS 23
abbrev N_without_end_blanks : List Str := ["symbols", "end"]
theorem sc_without_end_blanks : FnScope N_without_end_blanks ["symbols"] (defScope s_without_end_blanks) := ⟨rfl, rfl, rfl, by decide +kernel, rfl, by decide +kernel, by decide +kernel⟩
abbrev s_start : Stmt := topS 20
abbrev N_start : List Str := ["word", "symbols"]
theorem sc_start : FnScope N_start ["word"] (defScope s_start) := ⟨rfl, rfl, rfl, by decide +kernel, rfl, by decide +kernel, by decide +kernel⟩
abbrev s_content : Stmt := topS 21
abbrev N_content : List Str := ["configuration", "_", "left", "here", "right", "from_right"]
theorem sc_content : FnScope N_content ["configuration"] (defScope s_content) := ⟨rfl, rfl, rfl, by decide +kernel, rfl, by decide +kernel, by decide +kernel⟩
abbrev s_refuse_limit : Stmt := topS 27
abbrev N_refuse_limit : List Str := ["limit"]
theorem sc_refuse_limit : FnScope N_refuse_limit ["limit"] (defScope s_refuse_limit) := ⟨rfl, rfl, rfl, by decide +kernel, rfl, by decide +kernel, by decide +kernel⟩
abbrev s_head_cells : Stmt := topS 29
abbrev N_head_cells : List Str := ["moves", "cells", "move"]
theorem sc_head_cells : FnScope N_head_cells ["moves"] (defScope s_head_cells) := ⟨rfl, rfl, rfl, by decide +kernel, rfl, by decide +kernel, by decide +kernel⟩
abbrev s_note : Stmt := topS 28
abbrev N_note : List Str := ["machine", "configuration", "state", "_", "here", "move", "place", "values", "instruction"]
theorem sc_note : FnScope N_note ["machine", "configuration"] (defScope s_note) := ⟨rfl, rfl, rfl, by decide +kernel, rfl, by decide +kernel, by decide +kernel⟩
abbrev s_are_near : Stmt := topS 33
abbrev N_are_near : List Str := ["side", "other", "reach"]
theorem sc_are_near : FnScope N_are_near ["side", "other", "reach"] (defScope s_are_near) := ⟨rfl, rfl, rfl, by decide +kernel, rfl, by decide +kernel, by decide +kernel⟩
abbrev s_are_same : Stmt := topS 32
abbrev N_are_same : List Str := ["side", "other"]
theorem sc_are_same : FnScope N_are_same ["side", "other"] (defScope s_are_same) := ⟨rfl, rfl, rfl, by decide +kernel, rfl, by decide +kernel, by decide +kernel⟩
abbrev s_is_shift : Stmt := topS 31
abbrev N_is_shift : List Str := ["one", "other", "cells", "state", "left", "here", "right", "other_state", "other_left", "other_here", "other_right", "moved"]
theorem sc_is_shift : FnScope N_is_shift ["one", "other", "cells"] (defScope s_is_shift) := ⟨rfl, rfl, rfl, by decide +kernel, rfl, by decide +kernel, by decide +kernel⟩
abbrev s_named : Stmt := topS 39
abbrev N_named : List Str := ["kind", "run", "first", "second"]
theorem sc_named : FnScope N_named ["kind", "run", "first", "second"] (defScope s_named) := ⟨rfl, rfl, rfl, by decide +kernel, rfl, by decide +kernel, by decide +kernel⟩
abbrev s_found_shift : Stmt := topS 37
abbrev N_found_shift : List Str := ["machine", "run", "cells", "earlier", "second", "configuration", "state", "_", "here", "firsts", "first"]
theorem sc_found_shift : FnScope N_found_shift ["machine", "run"] (defScope s_found_shift) := ⟨rfl, rfl, rfl, by decide +kernel, rfl, by decide +kernel, by decide +kernel⟩
abbrev s_is_growth : Stmt := topS 30
abbrev N_is_growth : List Str := ["one", "other", "emptied", "place", "values", "other_place", "other_values", "value", "grown", "which"]
theorem sc_is_growth : FnScope N_is_growth ["one", "other", "emptied"] (defScope s_is_growth) := ⟨rfl, rfl, rfl, by decide +kernel, rfl, by decide +kernel, by decide +kernel⟩
abbrev s_found_growth : Stmt := topS 38
abbrev N_found_growth : List Str := ["machine", "run", "emptied", "earlier", "second", "configuration", "firsts", "first"]
theorem sc_found_growth : FnScope N_found_growth ["machine", "run"] (defScope s_found_growth) := ⟨rfl, rfl, rfl, by decide +kernel, rfl, by decide +kernel, by decide +kernel⟩
abbrev s_found : Stmt := topS 34
abbrev N_found : List Str := ["machine", "run"]
theorem sc_found : FnScope N_found ["machine", "run"] (defScope s_found) := ⟨rfl, rfl, rfl, by decide +kernel, rfl, by decide +kernel, by decide +kernel⟩
abbrev s_judge : Stmt := topS 26
abbrev N_judge : List Str := ["machine", "configuration", "limit", "run", "paper"]
theorem sc_judge : FnScope N_judge ["machine", "configuration", "limit"] (defScope s_judge) := ⟨rfl, rfl, rfl, by decide +kernel, rfl, by decide +kernel, by decide +kernel⟩
abbrev s_power : Stmt := topS 41
abbrev N_power : List Str := ["base", "exponent", "result", "bit"]
theorem sc_power : FnScope N_power ["base", "exponent"] (defScope s_power) := ⟨rfl, rfl, rfl, by decide +kernel, rfl, by decide +kernel, by decide +kernel⟩
abbrev s_refuse_states : Stmt := topS 49
abbrev N_refuse_states : List Str := ["states"]
theorem sc_refuse_states : FnScope N_refuse_states ["states"] (defScope s_refuse_states) := ⟨rfl, rfl, rfl, by decide +kernel, rfl, by decide +kernel, by decide +kernel⟩
abbrev s_entry_count : Stmt := topS 51
abbrev N_entry_count : List Str := ["states"]
theorem sc_entry_count : FnScope N_entry_count ["states"] (defScope s_entry_count) := ⟨rfl, rfl, rfl, by decide +kernel, rfl, by decide +kernel, by decide +kernel⟩
abbrev s_machine_count : Stmt := topS 46
abbrev N_machine_count : List Str := ["states"]
theorem sc_machine_count : FnScope N_machine_count ["states"] (defScope s_machine_count) := ⟨rfl, rfl, rfl, by decide +kernel, rfl, by decide +kernel, by decide +kernel⟩
abbrev s_refuse_index : Stmt := topS 50
abbrev N_refuse_index : List Str := ["states", "index"]
theorem sc_refuse_index : FnScope N_refuse_index ["states", "index"] (defScope s_refuse_index) := ⟨rfl, rfl, rfl, by decide +kernel, rfl, by decide +kernel, by decide +kernel⟩
abbrev s_rule : Stmt := topS 52
abbrev N_rule : List Str := ["pair", "entry", "number", "move"]
theorem sc_rule : FnScope N_rule ["pair", "entry"] (defScope s_rule) := ⟨rfl, rfl, rfl, by decide +kernel, rfl, by decide +kernel, by decide +kernel⟩
abbrev s_machine_at : Stmt := topS 47
abbrev N_machine_at : List Str := ["states", "index", "rules", "pair", "entry"]
theorem sc_machine_at : FnScope N_machine_at ["states", "index"] (defScope s_machine_at) := ⟨rfl, rfl, rfl, by decide +kernel, rfl, by decide +kernel, by decide +kernel⟩
abbrev s_greater : Stmt := topS 53
abbrev N_greater : List Str := ["most", "number", "index"]
theorem sc_greater : FnScope N_greater ["most", "number", "index"] (defScope s_greater) := ⟨rfl, rfl, rfl, by decide +kernel, rfl, by decide +kernel, by decide +kernel⟩
abbrev s_census : Stmt := topS 48
abbrev N_census : List Str := ["states", "first", "last", "limit", "counts", "most_steps", "most_marks", "begin", "index", "machine", "word", "told", "marks"]
theorem sc_census : FnScope N_census ["states", "first", "last", "limit"] (defScope s_census) := ⟨rfl, rfl, rfl, by decide +kernel, rfl, by decide +kernel, by decide +kernel⟩
abbrev s_law_cell : Stmt := topS 55
abbrev N_law_cell : List Str := ["script", "k"]
theorem sc_law_cell : FnScope N_law_cell ["script", "k"] (defScope s_law_cell) := ⟨rfl, rfl, rfl, by decide +kernel, rfl, by decide +kernel, by decide +kernel⟩
abbrev s_law_draws : Stmt := topS 56
abbrev N_law_draws : List Str := ["cell", "count", "rows", "left", "k", "mixed"]
theorem sc_law_draws : FnScope N_law_draws ["cell", "count"] (defScope s_law_draws) := ⟨rfl, rfl, rfl, by decide +kernel, rfl, by decide +kernel, by decide +kernel⟩
abbrev s_law_like : Stmt := topS 57
abbrev N_law_like : List Str := ["actual", "due", "k"]
theorem sc_law_like : FnScope N_law_like ["actual", "due"] (defScope s_law_like) := ⟨rfl, rfl, rfl, by decide +kernel, rfl, by decide +kernel, by decide +kernel⟩
abbrev s_law_strip : Stmt := topS 58
abbrev N_law_strip : List Str := ["symbols", "size", "k"]
theorem sc_law_strip : FnScope N_law_strip ["symbols"] (defScope s_law_strip) := ⟨rfl, rfl, rfl, by decide +kernel, rfl, by decide +kernel, by decide +kernel⟩
abbrev s_law_turing_step : Stmt := topS 59
abbrev N_law_turing_step : List Str := ["table", "here", "state", "left", "symbol", "right", "written", "move", "following"]
theorem sc_law_turing_step : FnScope N_law_turing_step ["table", "here"] (defScope s_law_turing_step) := ⟨rfl, rfl, rfl, by decide +kernel, rfl, by decide +kernel, by decide +kernel⟩
abbrev s_law_table : Stmt := topS 60
abbrev N_law_table : List Str := ["rules", "table", "state", "symbol", "written", "move", "following"]
theorem sc_law_table : FnScope N_law_table ["rules"] (defScope s_law_table) := ⟨rfl, rfl, rfl, by decide +kernel, rfl, by decide +kernel, by decide +kernel⟩
abbrev s_law_registers_step : Stmt := topS 61
abbrev N_law_registers_step : List Str := ["instructions", "here", "place", "values", "one", "row"]
theorem sc_law_registers_step : FnScope N_law_registers_step ["instructions", "here"] (defScope s_law_registers_step) := ⟨rfl, rfl, rfl, by decide +kernel, rfl, by decide +kernel, by decide +kernel⟩
abbrev s_law_own_run : Stmt := topS 62
abbrev N_law_own_run : List Str := ["sort", "made", "begin", "most", "found", "table", "k", "following"]
theorem sc_law_own_run : FnScope N_law_own_run ["sort", "made", "begin", "most"] (defScope s_law_own_run) := ⟨rfl, rfl, rfl, by decide +kernel, rfl, by decide +kernel, by decide +kernel⟩
abbrev s_law_places : Stmt := topS 63
abbrev N_law_places : List Str := ["made", "run", "table", "heads", "here"]
theorem sc_law_places : FnScope N_law_places ["made", "run"] (defScope s_law_places) := ⟨rfl, rfl, rfl, by decide +kernel, rfl, by decide +kernel, by decide +kernel⟩
abbrev s_law_symbol_at : Stmt := topS 64
abbrev N_law_symbol_at : List Str := ["here", "head", "place", "side", "far"]
theorem sc_law_symbol_at : FnScope N_law_symbol_at ["here", "head", "place"] (defScope s_law_symbol_at) := ⟨rfl, rfl, rfl, by decide +kernel, rfl, by decide +kernel, by decide +kernel⟩
abbrev s_law_right_paper : Stmt := topS 65
abbrev N_law_right_paper : List Str := ["sort", "made", "run", "paper", "word", "i", "j", "one", "two", "here", "step", "heads", "low", "high", "way", "first", "last", "place", "k"]
theorem sc_law_right_paper : FnScope N_law_right_paper ["sort", "made", "run", "paper"] (defScope s_law_right_paper) := ⟨rfl, rfl, rfl, by decide +kernel, rfl, by decide +kernel, by decide +kernel⟩
abbrev s_law_sought : Stmt := topS 66
abbrev N_law_sought : List Str := ["sort", "made", "run", "limit", "j", "i", "word"]
theorem sc_law_sought : FnScope N_law_sought ["sort", "made", "run", "limit"] (defScope s_law_sought) := ⟨rfl, rfl, rfl, by decide +kernel, rfl, by decide +kernel, by decide +kernel⟩
abbrev s_law_bad : Stmt := topS 67
abbrev N_law_bad : List Str := ["states", "first", "last", "limit"]
theorem sc_law_bad : FnScope N_law_bad ["states", "first", "last", "limit"] (defScope s_law_bad) := ⟨rfl, rfl, rfl, by decide +kernel, rfl, by decide +kernel, by decide +kernel⟩
abbrev s_law_entries : Stmt := topS 68
abbrev N_law_entries : List Str := ["states", "index", "rules", "pair", "entry"]
theorem sc_law_entries : FnScope N_law_entries ["states", "index"] (defScope s_law_entries) := ⟨rfl, rfl, rfl, by decide +kernel, rfl, by decide +kernel, by decide +kernel⟩
abbrev s_law : Stmt := topS 69
abbrev N_law : List Str := ["script", "draws", "states", "many", "first", "last", "limit", "ends", "loops", "opens", "steps", "marks", "index", "rules", "run", "count", "great", "rows", "bad", "x"]
theorem sc_law : FnScope N_law ["script"] (defScope s_law) := ⟨rfl, rfl, rfl, by decide +kernel, rfl, by decide +kernel, by decide +kernel⟩
structure Txt (K : PySem.W.Frag) (w : World) (mg : Str → Option Value) (C_Turing C_Registers C_InvalidMachine C_BadArgument : Addr) : Prop where
  n_abs : mg "abs" = none
  n_all : mg "all" = none
  n_bool : mg "bool" = none
  n_divmod : mg "divmod" = none
  n_enumerate : mg "enumerate" = none
  n_int : mg "int" = none
  n_isinstance : mg "isinstance" = none
  n_len : mg "len" = none
  n_list : mg "list" = none
  n_max : mg "max" = none
  n_min : mg "min" = none
  n_range : mg "range" = none
  n_reversed : mg "reversed" = none
  n_sorted : mg "sorted" = none
  n_str : mg "str" = none
  n_tuple : mg "tuple" = none
  n_zip : mg "zip" = none
  m_BLANK : ∃ u, mg "BLANK" = some u ∧ RelV (.int 0) u
  m_GREATEST_LIMIT : ∃ u, mg "GREATEST_LIMIT" = some u ∧ RelV (.int 300) u
  m_MARK : ∃ u, mg "MARK" = some u ∧ RelV (.int 1) u
  m_MOST_INSTRUCTIONS : ∃ u, mg "MOST_INSTRUCTIONS" = some u ∧ RelV (.int 100000) u
  m_MOST_MACHINES : ∃ u, mg "MOST_MACHINES" = some u ∧ RelV (.int 2000) u
  m_MOST_REGISTERS : ∃ u, mg "MOST_REGISTERS" = some u ∧ RelV (.int 2000) u
  m_MOST_STATES_census : ∃ u, mg "MOST_STATES_census" = some u ∧ RelV (.int 6) u
  m_MOST_STATES_turing : ∃ u, mg "MOST_STATES_turing" = some u ∧ RelV (.int 20000) u
  m_MOST_SYMBOLS : ∃ u, mg "MOST_SYMBOLS" = some u ∧ RelV (.int 400) u
  g_Turing : mg "Turing" = some (.ref C_Turing)
  g_Registers : mg "Registers" = some (.ref C_Registers)
  g_InvalidMachine : mg "InvalidMachine" = some (.ref C_InvalidMachine)
  g_BadArgument : mg "BadArgument" = some (.ref C_BadArgument)
  e_InvalidMachine : ErrP K mg "InvalidMachine" C_InvalidMachine
  e_BadArgument : ErrP K mg "BadArgument" C_BadArgument
  cls_Turing : Cls K C_Turing
  na_Turing_states : NoAttr K C_Turing "states"
  na_Turing_symbols : NoAttr K C_Turing "symbols"
  na_Turing_rules : NoAttr K C_Turing "rules"
  na_Turing__rules_at : NoAttr K C_Turing "_rules_at"
  cls_Registers : Cls K C_Registers
  na_Registers_count : NoAttr K C_Registers "count"
  na_Registers_instructions : NoAttr K C_Registers "instructions"
  ki_Turing_Registers : PySem.W.kitOne K (.ref C_Turing) (.ref C_Registers) = some false
  ki_Registers_Turing : PySem.W.kitOne K (.ref C_Registers) (.ref C_Turing) = some false

end K89

set_option maxHeartbeats 4000000
/-! facts of a text's top read off the state by one kernel run: what k_head gives piece by piece, for great texts -/
namespace Hd
open PySem PySem.Spec PyProof.Rows L2 He Ly
/-! ### classes -/
/-- the class object at C: its own mro's rest, its table -/
def clsP (K : PySem.W.Frag) (C : Addr) : Option (Addr × List Value × Option String) := match K.lookup C with
  | some ⟨.type c, _, .cls cd, sl⟩ => (match cd.mro, sl.toList with
    | .ref c2 :: bm, [_, _, _, _, some (.builtin nw), _] => if decide (c = "type") && (decide (c2 = C) && (cd.hasDict && !cd.hasDel)) then some (cd.ns, bm, some nw) else none
    | _, _ => none)
  | _ => none
theorem clsP_ok {K : PySem.W.Frag} {C N : Addr} {bm : List Value} {nw : String} (h : clsP K C = some (N, bm, some nw)) :
    ∃ nm q bs sn sub ab col dd k0 k1 k2 k3 k5, K.lookup C = some (excClassObj nm q C N bs bm true sn sub ab col dd k0 k1 k2 k3 k5 nw) := by
  unfold clsP at h
  cases q : K.lookup C with
  | none => rw [q] at h; cases h
  | some o =>
    obtain ⟨oc, od, dt, sl⟩ := o
    rw [q] at h
    cases oc with
    | type c =>
      cases dt with
      | cls cd =>
        obtain ⟨nm, bs, mro, N', qn, hd, sn, sub, ab, col, hdel⟩ := cd
        obtain ⟨sl⟩ := sl
        dsimp only at h
        split at h
        · rename_i c2 bm' k0 k1 k2 k3 nw' k5
          split at h
          · rename_i hb
            obtain ⟨h1, h2⟩ := ba hb
            obtain ⟨h2, h3⟩ := ba h2
            obtain ⟨h3, h4⟩ := ba h3
            have e3 := of_decide_eq_true h1
            have e4 := of_decide_eq_true h2
            simp only [Option.some.injEq, Prod.mk.injEq] at h
            obtain ⟨r1, r2, r3⟩ := h
            have h3' : hd = true := h3
            have h4' : hdel = false := by
              cases hdel with
              | false => rfl
              | true => cases h4
            subst h3' h4' e3 e4 r1 r2 r3
            exact ⟨_, _, _, _, _, _, _, _, _, _, _, _, _, rfl⟩
          · cases h
        · cases h
      | _ => cases h
    | _ => cases dt <;> cases h
/-- its table -/
def clsN (K : PySem.W.Frag) (C : Addr) : Addr := match clsP K C with
  | some (N, _, _) => N
  | none => 0
/-- a class with an == of its own -/
def eqB (K : PySem.W.Frag) (C f : Addr) : Bool := (match clsP K C with
  | some (_, [.type b], some _) => decide (b = "object")
  | _ => false) && (PySem.W.nsOkIn K (clsN K C) && (eqO (PySem.W.nsIn K (clsN K C) "__eq__") (some (some (.ref f))) && eqO (PySem.W.nsIn K (clsN K C) "__ne__") (some none)))
theorem eqB_ok {K : PySem.W.Frag} {C f : Addr} (h : eqB K C f = true) : ∃ nm q N bs sn sub ab col dd k0 k1 k2 k3 k5 nw,
    K.lookup C = some (excClassObj nm q C N bs [.type "object"] true sn sub ab col dd k0 k1 k2 k3 k5 nw) ∧ PySem.W.nsOkIn K N = true ∧ PySem.W.nsIn K N "__eq__" = some (some (.ref f)) ∧ PySem.W.nsIn K N "__ne__" = some none := by
  obtain ⟨h1, h2⟩ := ba h
  obtain ⟨h2, h3⟩ := ba h2
  obtain ⟨h3, h4⟩ := ba h3
  split at h1
  · rename_i N b nw e
    have eb := of_decide_eq_true h1
    subst eb
    have eN : clsN K C = N := by unfold clsN; rw [e]
    rw [eN] at h2 h3 h4
    obtain ⟨nm, q, bs, sn, sub, ab, col, dd, k0, k1, k2, k3, k5, l⟩ := clsP_ok e
    exact ⟨nm, q, N, bs, sn, sub, ab, col, dd, k0, k1, k2, k3, k5, nw, l, h2, eqO_ok h3, eqO_ok h4⟩
  · cases h1
/-- an error's class -/
def errB (K : PySem.W.Frag) (C : Addr) : Bool := match clsP K C with
  | some (_, bm, some nw) => decide (nw = "ValueError.__new__") && PySem.HandSPX.refsVE bm
  | _ => false
/-! ### an error's __init__ that calls super -/
abbrev SuV : Type := Option (Str × Str × Arguments × FuncBody × Scope × Addr × List Str × Value × Addr)
def supObs (K : PySem.W.Frag) (f : Addr) : SuV := match K.lookup f with
  | some ⟨_, _, .func fd, _⟩ => some (fd.name, fd.qualname, fd.params, fd.body, fd.scope, fd.globals, fd.closure.map (·.1), fd.defaults, fd.builtins)
  | _ => none
def supB (K : PySem.W.Frag) (file : Str) (C f : Addr) : Bool := match K.lookup f with
  | some ⟨_, _, .func fd, _⟩ => (match fd.code, fd.closure with
    | .ref cda, [(_, cc)] => PySem.W.codeIn K (.ref cda) fd.qualname && ((match K.lookup cda with
      | some ⟨_, _, .fields ws, _⟩ => (match (ws[2]? : Option Value) with
        | some (.str fl _) => file == fl
        | _ => false)
      | _ => false) && (match K.lookup cc with
      | some ⟨_, _, .cell (some (.ref c)), _⟩ => decide (c = C)
      | _ => false))
    | _, _ => false)
  | _ => false
/-! ### written dicts and tuples -/
def kdO (e : DictEntry) : Option (Str × Int × Int) := match e.key, e.val with
  | .str x _, .int v _ => some (x, e.hash, v)
  | _, _ => none
def kdObs (K : PySem.W.Frag) (a : Addr) : Option (List (Option (Str × Int × Int))) := match K.lookup a with
  | some ⟨.type c, none, .dict es _, ⟨[]⟩⟩ => if decide (c = "dict") && !decide (a = sysModules) then some (es.toList.map kdO) else none
  | _ => none
def kdV (P : Params) (ks : List (Str × Int)) : List (Option (Str × Int × Int)) := ks.map fun k => some (k.1, PyData.keyHash P k.1, k.2)
/-- the i-th item of the tuple at a -/
def itA (K : PySem.W.Frag) (a : Addr) (i : Nat) : Addr := match K.lookup a with
  | some ⟨_, _, .seq its _, _⟩ => (match its.toList[i]? with
    | some (.ref b) => b
    | _ => 0)
  | _ => 0
def tupA (K : PySem.W.Frag) (a : Addr) (vs : List V) : Bool := match K.lookup a with
  | some ⟨.type c, _, .seq its _, _⟩ => decide (c = "tuple") && (decide (its.size ≤ sizeLine) && relAll vs its.toList)
  | _ => false
/-- an int of the module -/
def intB (K : PySem.W.Frag) (x : Str) (i : Int) : Bool := match PySem.W.nsIn K mainGlobals x with
  | some (some (.int j _)) => decide (j = i)
  | _ => false
theorem intB_ok {K : PySem.W.Frag} {x : Str} {i : Int} (h : intB K x i = true) : ∃ t, PySem.W.nsIn K mainGlobals x = some (some (.int i t)) := by
  unfold intB at h
  split at h
  · rename_i j t e
    have ej := of_decide_eq_true h
    subst ej
    exact ⟨t, e⟩
  · cases h
/-! ### the Hook -/
/-- a def -/
structure Fn where
  at_ : PySem.W.Frag → Addr
  name : Str
  qual : Str
  params : Arguments
  body : List Stmt
  scope : Scope
def fnO (K : PySem.W.Frag) (a : Addr) : FnV := match K.lookup a with
  | some ⟨_, _, .func fd, _⟩ => some (fd.name, fd.qualname, fd.params, fd.body, fd.scope, fd.globals, fd.closure, fd.defaults, fd.builtins)
  | _ => none
def Fn.val (d : Fn) : FnV := some (d.name, d.qual, d.params, .stmts d.body, d.scope, mainGlobals, [], .none, builtinsNs)
def Fn.ok (K : PySem.W.Frag) (d : Fn) : Bool := match K.lookup (d.at_ K) with
  | some ⟨_, _, .func fd, _⟩ => PySem.W.codeIn K fd.code d.qual
  | _ => false
theorem fnO_ok {K : PySem.W.Frag} {d : Fn} (e : fnO K (d.at_ K) = d.val) (c : d.ok K = true) :
    ∃ oc od osl kV doc pm an cdv ct, K.lookup (d.at_ K) = some ⟨oc, od, .func (PySem.W.fnOf d.name d.qual d.params d.body d.scope .none kV doc pm an cdv ct), osl⟩ ∧ PySem.W.codeIn K cdv d.qual = true := by
  unfold Fn.ok at c
  unfold fnO at e
  cases q : K.lookup (d.at_ K) with
  | none => rw [q] at c; cases c
  | some o =>
    obtain ⟨oc, od, dt, osl⟩ := o
    rw [q] at c e
    cases dt with
    | func fd =>
      obtain ⟨n1, n2, n3, n4, n5, n6, n7, n8, n9, n10, n11, n12, n13, n14, n15⟩ := fd
      have e2 : (some (n1, n2, n3, n4, n5, n6, n7, n8, n15) : FnV) = some (d.name, d.qual, d.params, .stmts d.body, d.scope, mainGlobals, [], .none, builtinsNs) := e
      simp only [Option.some.injEq, Prod.mk.injEq] at e2
      obtain ⟨h1, h2, h3, h4, h5, h6, h7, h8, h9⟩ := e2
      subst h1 h2 h3 h4 h5 h6 h7 h8 h9
      exact ⟨oc, od, osl, n9, n10, n11, n12, n13, n14, rfl, c⟩
    | _ => cases c
structure Facts where
  ex : PySem.W.Frag → Bool
  fn : List Fn
  sup : List ((PySem.W.Frag → Addr) × SuV)
  kd : List ((PySem.W.Frag → Addr) × List (Str × Int))
abbrev AlF : Type := Bool × List FnV × List SuV × List (Option (List (Option (Str × Int × Int))))
def obsK (F : Facts) (K : PySem.W.Frag) : AlF := (F.ex K && F.fn.all fun d => d.ok K, F.fn.map fun d => fnO K (d.at_ K), F.sup.map fun d => supObs K (d.1 K), F.kd.map fun d => kdObs K (d.1 K))
def valK (F : Facts) (w : World) : AlF := (true, F.fn.map Fn.val, F.sup.map fun d => d.2, F.kd.map fun d => some (kdV w.params d.2))
def Says (F : Facts) (w : World) (K : PySem.W.Frag) : Prop := obsK F K = valK F w
def hook (as : List Addr) (F : Facts) : PySem.W.Hook where
  α := AlF
  obs := fun s => obsK F (frG s.heap.get? as)
  val := fun w => valK F w
  says := fun w h => ∃ K : PySem.W.Frag, K.In h ∧ Says F w K
  of := fun _ _ e => ⟨_, frG_in, e⟩
  keeps := fun _ _ _ ⟨K, hK, c⟩ k => ⟨K, PySem.W.Frag.In.keeps hK k, c⟩
def ob (as : List Addr) (F : Facts) (s : PySem.W.SharedT) : AlF := obsK F (frG (HandSHeadRun.getT s) as)
theorem ob_eq {as : List Addr} {F : Facts} (s : PySem.W.SharedT) : ob as F s = (hook as F).obs s.abs := by
  have e : HandSHeadRun.getT s = s.abs.heap.get? := funext (HandSHeadRun.getT_eq s)
  unfold ob
  rw [e]
  rfl
section
variable {F : Facts} {w : World} {K : PySem.W.Frag}
theorem Says.more (c : Says F w K) : F.ex K = true := (ba (show (F.ex K && F.fn.all fun d => d.ok K) = true from congrArg (fun z : AlF => z.1) c)).1
theorem Says.def_ (c : Says F w K) (i : Nat) {d : Fn} (h : F.fn[i]? = some d := by rfl) :
    ∃ oc od osl kV doc pm an cdv ct, K.lookup (d.at_ K) = some ⟨oc, od, .func (PySem.W.fnOf d.name d.qual d.params d.body d.scope .none kV doc pm an cdv ct), osl⟩ ∧ PySem.W.codeIn K cdv d.qual = true := by
  have c2 := (ba (show (F.ex K && F.fn.all fun d => d.ok K) = true from congrArg (fun z : AlF => z.1) c)).2
  have e : F.fn.map (fun d => fnO K (d.at_ K)) = F.fn.map Fn.val := congrArg (fun z : AlF => z.2.1) c
  have e2 : (F.fn.map fun d => fnO K (d.at_ K))[i]? = (F.fn.map Fn.val)[i]? := by rw [e]
  rw [List.getElem?_map, List.getElem?_map, h] at e2
  exact fnO_ok (Option.some.inj e2) (List.all_eq_true.mp c2 d (List.mem_of_getElem? h))
end
end Hd

set_option maxHeartbeats 4000000
namespace K89
open PySem L2 Ly
abbrev PR : Program := PySem.Challenge.pw_translatory_k89_censuses
def PFILE : Str := PR.main.file
abbrev d0 : Hd.Fn := ⟨fun K => (He.ga K "refuse_negative"), "refuse_negative", "refuse_negative", defArgs s_refuse_negative, defBody s_refuse_negative, defScope s_refuse_negative⟩
abbrev d1 : Hd.Fn := ⟨fun K => (He.ga K "after"), "after", "after", defArgs s_after, defBody s_after, defScope s_after⟩
abbrev d2 : Hd.Fn := ⟨fun K => (He.ga K "history"), "history", "history", defArgs s_history, defBody s_history, defScope s_history⟩
abbrev d3 : Hd.Fn := ⟨fun K => (He.ga K "_names_what_is_there"), "_names_what_is_there", "_names_what_is_there", defArgs s_names_what_is_there, defBody s_names_what_is_there, defScope s_names_what_is_there⟩
abbrev d4 : Hd.Fn := ⟨fun K => (He.ma K (He.ga K "Registers") "__init__"), "__init__", "Registers.__init__", defArgs s_Registers_init, defBody s_Registers_init, defScope s_Registers_init⟩
abbrev d5 : Hd.Fn := ⟨fun K => (He.ma K (He.ga K "Registers") "__eq__"), "__eq__", "Registers.__eq__", defArgs s_Registers_eq, defBody s_Registers_eq, defScope s_Registers_eq⟩
abbrev d6 : Hd.Fn := ⟨fun K => (He.ga K "_changed"), "_changed", "_changed", defArgs s_changed, defBody s_changed, defScope s_changed⟩
abbrev d7 : Hd.Fn := ⟨fun K => (He.ma K (He.ga K "Registers") "step"), "step", "Registers.step", defArgs s_Registers_step, defBody s_Registers_step, defScope s_Registers_step⟩
abbrev d8 : Hd.Fn := ⟨fun K => (He.ga K "_are_rules"), "_are_rules", "_are_rules", defArgs s_are_rules, defBody s_are_rules, defScope s_are_rules⟩
abbrev d9 : Hd.Fn := ⟨fun K => (He.ma K (He.ga K "Turing") "__init__"), "__init__", "Turing.__init__", defArgs s_Turing_init, defBody s_Turing_init, defScope s_Turing_init⟩
abbrev d10 : Hd.Fn := ⟨fun K => (He.ma K (He.ga K "Turing") "__eq__"), "__eq__", "Turing.__eq__", defArgs s_Turing_eq, defBody s_Turing_eq, defScope s_Turing_eq⟩
abbrev d11 : Hd.Fn := ⟨fun K => (He.ma K (He.ga K "Turing") "step"), "step", "Turing.step", defArgs s_Turing_step, defBody s_Turing_step, defScope s_Turing_step⟩
abbrev d12 : Hd.Fn := ⟨fun K => (He.ma K (He.ga K "Turing") "rule"), "rule", "Turing.rule", defArgs s_Turing_rule, defBody s_Turing_rule, defScope s_Turing_rule⟩
abbrev d13 : Hd.Fn := ⟨fun K => (He.ga K "without_end_blanks"), "without_end_blanks", "without_end_blanks", defArgs s_without_end_blanks, defBody s_without_end_blanks, defScope s_without_end_blanks⟩
abbrev d14 : Hd.Fn := ⟨fun K => (He.ga K "start"), "start", "start", defArgs s_start, defBody s_start, defScope s_start⟩
abbrev d15 : Hd.Fn := ⟨fun K => (He.ga K "content"), "content", "content", defArgs s_content, defBody s_content, defScope s_content⟩
abbrev d16 : Hd.Fn := ⟨fun K => (He.ga K "_refuse_limit"), "_refuse_limit", "_refuse_limit", defArgs s_refuse_limit, defBody s_refuse_limit, defScope s_refuse_limit⟩
abbrev d17 : Hd.Fn := ⟨fun K => (He.ga K "_head_cells"), "_head_cells", "_head_cells", defArgs s_head_cells, defBody s_head_cells, defScope s_head_cells⟩
abbrev d18 : Hd.Fn := ⟨fun K => (He.ga K "_note"), "_note", "_note", defArgs s_note, defBody s_note, defScope s_note⟩
abbrev d19 : Hd.Fn := ⟨fun K => (He.ga K "_are_near"), "_are_near", "_are_near", defArgs s_are_near, defBody s_are_near, defScope s_are_near⟩
abbrev d20 : Hd.Fn := ⟨fun K => (He.ga K "_are_same"), "_are_same", "_are_same", defArgs s_are_same, defBody s_are_same, defScope s_are_same⟩
abbrev d21 : Hd.Fn := ⟨fun K => (He.ga K "_is_shift"), "_is_shift", "_is_shift", defArgs s_is_shift, defBody s_is_shift, defScope s_is_shift⟩
abbrev d22 : Hd.Fn := ⟨fun K => (He.ga K "_named"), "_named", "_named", defArgs s_named, defBody s_named, defScope s_named⟩
abbrev d23 : Hd.Fn := ⟨fun K => (He.ga K "_found_shift"), "_found_shift", "_found_shift", defArgs s_found_shift, defBody s_found_shift, defScope s_found_shift⟩
abbrev d24 : Hd.Fn := ⟨fun K => (He.ga K "_is_growth"), "_is_growth", "_is_growth", defArgs s_is_growth, defBody s_is_growth, defScope s_is_growth⟩
abbrev d25 : Hd.Fn := ⟨fun K => (He.ga K "_found_growth"), "_found_growth", "_found_growth", defArgs s_found_growth, defBody s_found_growth, defScope s_found_growth⟩
abbrev d26 : Hd.Fn := ⟨fun K => (He.ga K "_found"), "_found", "_found", defArgs s_found, defBody s_found, defScope s_found⟩
abbrev d27 : Hd.Fn := ⟨fun K => (He.ga K "judge"), "judge", "judge", defArgs s_judge, defBody s_judge, defScope s_judge⟩
abbrev d28 : Hd.Fn := ⟨fun K => (He.ga K "power"), "power", "power", defArgs s_power, defBody s_power, defScope s_power⟩
abbrev d29 : Hd.Fn := ⟨fun K => (He.ga K "_refuse_states"), "_refuse_states", "_refuse_states", defArgs s_refuse_states, defBody s_refuse_states, defScope s_refuse_states⟩
abbrev d30 : Hd.Fn := ⟨fun K => (He.ga K "_entry_count"), "_entry_count", "_entry_count", defArgs s_entry_count, defBody s_entry_count, defScope s_entry_count⟩
abbrev d31 : Hd.Fn := ⟨fun K => (He.ga K "machine_count"), "machine_count", "machine_count", defArgs s_machine_count, defBody s_machine_count, defScope s_machine_count⟩
abbrev d32 : Hd.Fn := ⟨fun K => (He.ga K "_refuse_index"), "_refuse_index", "_refuse_index", defArgs s_refuse_index, defBody s_refuse_index, defScope s_refuse_index⟩
abbrev d33 : Hd.Fn := ⟨fun K => (He.ga K "_rule"), "_rule", "_rule", defArgs s_rule, defBody s_rule, defScope s_rule⟩
abbrev d34 : Hd.Fn := ⟨fun K => (He.ga K "machine_at"), "machine_at", "machine_at", defArgs s_machine_at, defBody s_machine_at, defScope s_machine_at⟩
abbrev d35 : Hd.Fn := ⟨fun K => (He.ga K "_greater"), "_greater", "_greater", defArgs s_greater, defBody s_greater, defScope s_greater⟩
abbrev d36 : Hd.Fn := ⟨fun K => (He.ga K "census"), "census", "census", defArgs s_census, defBody s_census, defScope s_census⟩
abbrev d37 : Hd.Fn := ⟨fun K => (He.ga K "_law_cell"), "_law_cell", "_law_cell", defArgs s_law_cell, defBody s_law_cell, defScope s_law_cell⟩
abbrev d38 : Hd.Fn := ⟨fun K => (He.ga K "_law_draws"), "_law_draws", "_law_draws", defArgs s_law_draws, defBody s_law_draws, defScope s_law_draws⟩
abbrev d39 : Hd.Fn := ⟨fun K => (He.ga K "_law_like"), "_law_like", "_law_like", defArgs s_law_like, defBody s_law_like, defScope s_law_like⟩
abbrev d40 : Hd.Fn := ⟨fun K => (He.ga K "_law_strip"), "_law_strip", "_law_strip", defArgs s_law_strip, defBody s_law_strip, defScope s_law_strip⟩
abbrev d41 : Hd.Fn := ⟨fun K => (He.ga K "_law_turing_step"), "_law_turing_step", "_law_turing_step", defArgs s_law_turing_step, defBody s_law_turing_step, defScope s_law_turing_step⟩
abbrev d42 : Hd.Fn := ⟨fun K => (He.ga K "_law_table"), "_law_table", "_law_table", defArgs s_law_table, defBody s_law_table, defScope s_law_table⟩
abbrev d43 : Hd.Fn := ⟨fun K => (He.ga K "_law_registers_step"), "_law_registers_step", "_law_registers_step", defArgs s_law_registers_step, defBody s_law_registers_step, defScope s_law_registers_step⟩
abbrev d44 : Hd.Fn := ⟨fun K => (He.ga K "_law_own_run"), "_law_own_run", "_law_own_run", defArgs s_law_own_run, defBody s_law_own_run, defScope s_law_own_run⟩
abbrev d45 : Hd.Fn := ⟨fun K => (He.ga K "_law_places"), "_law_places", "_law_places", defArgs s_law_places, defBody s_law_places, defScope s_law_places⟩
abbrev d46 : Hd.Fn := ⟨fun K => (He.ga K "_law_symbol_at"), "_law_symbol_at", "_law_symbol_at", defArgs s_law_symbol_at, defBody s_law_symbol_at, defScope s_law_symbol_at⟩
abbrev d47 : Hd.Fn := ⟨fun K => (He.ga K "_law_right_paper"), "_law_right_paper", "_law_right_paper", defArgs s_law_right_paper, defBody s_law_right_paper, defScope s_law_right_paper⟩
abbrev d48 : Hd.Fn := ⟨fun K => (He.ga K "_law_sought"), "_law_sought", "_law_sought", defArgs s_law_sought, defBody s_law_sought, defScope s_law_sought⟩
abbrev d49 : Hd.Fn := ⟨fun K => (He.ga K "_law_bad"), "_law_bad", "_law_bad", defArgs s_law_bad, defBody s_law_bad, defScope s_law_bad⟩
abbrev d50 : Hd.Fn := ⟨fun K => (He.ga K "_law_entries"), "_law_entries", "_law_entries", defArgs s_law_entries, defBody s_law_entries, defScope s_law_entries⟩
abbrev d51 : Hd.Fn := ⟨fun K => (He.ga K "law"), "law", "law", defArgs s_law, defBody s_law, defScope s_law⟩
def fnL : List Hd.Fn := [d0, d1, d2, d3, d4, d5, d6, d7, d8, d9, d10, d11, d12, d13, d14, d15, d16, d17, d18, d19, d20, d21, d22, d23, d24, d25, d26, d27, d28, d29, d30, d31, d32, d33, d34, d35, d36, d37, d38, d39, d40, d41, d42, d43, d44, d45, d46, d47, d48, d49, d50, d51]
def supL : List ((PySem.W.Frag → Addr) × Hd.SuV) := []
def kdL : List ((PySem.W.Frag → Addr) × List (Str × Int)) := []
def ex0 (K : PySem.W.Frag) : Bool := decide (PySem.W.nsIn K mainGlobals "Turing" = some (some (.ref (He.ga K "Turing")))) && (decide (PySem.W.nsIn K mainGlobals "Registers" = some (some (.ref (He.ga K "Registers")))) && (decide (PySem.W.nsIn K mainGlobals "InvalidMachine" = some (some (.ref (He.ga K "InvalidMachine")))) && (decide (PySem.W.nsIn K mainGlobals "BadArgument" = some (some (.ref (He.ga K "BadArgument")))) && (decide (PySem.W.specialIn K (.builtin "object.__class__") "__get__" = some (some (.builtin "getset_descriptor.__get__"))) && (decide (PySem.W.takesIn K (.builtin "object.__class__") = some true) && (decide (PySem.W.plainGet K (He.ga K "Turing") Str.empty = true) && (decide (PySem.W.hasDictIn K (He.ga K "Turing") = true) && (decide (PySem.W.plainOver K (He.ga K "Turing") = true) && (decide (PySem.W.findIn K (.ref (He.ga K "Turing")) "__setattr__" = some (some (.builtin "object.__setattr__"))) && (decide (PySem.W.makesIn K (He.ga K "Turing") = true) && (decide (PySem.W.keepIn K (.ref (He.ga K "Turing")) = true) && (decide (PySem.W.findIn K (.ref (He.ga K "Turing")) "states" = some none) && (decide (PySem.W.findIn K (.ref (He.ga K "Turing")) "symbols" = some none) && (decide (PySem.W.findIn K (.ref (He.ga K "Turing")) "rules" = some none) && (decide (PySem.W.findIn K (.ref (He.ga K "Turing")) "_rules_at" = some none) && (decide (PySem.W.findIn K (.ref (He.ga K "Turing")) "__class__" = some (some (.builtin "object.__class__"))) && (decide (PySem.W.mroIn K (He.ga K "Turing") (.type "object") = some true) && (decide (PySem.W.plainGet K (He.ga K "Registers") Str.empty = true) && (decide (PySem.W.hasDictIn K (He.ga K "Registers") = true) && true)))))))))))))))))))
def ex1 (K : PySem.W.Frag) : Bool := decide (PySem.W.plainOver K (He.ga K "Registers") = true) && (decide (PySem.W.findIn K (.ref (He.ga K "Registers")) "__setattr__" = some (some (.builtin "object.__setattr__"))) && (decide (PySem.W.makesIn K (He.ga K "Registers") = true) && (decide (PySem.W.keepIn K (.ref (He.ga K "Registers")) = true) && (decide (PySem.W.findIn K (.ref (He.ga K "Registers")) "count" = some none) && (decide (PySem.W.findIn K (.ref (He.ga K "Registers")) "instructions" = some none) && (decide (PySem.W.findIn K (.ref (He.ga K "Registers")) "__class__" = some (some (.builtin "object.__class__"))) && (decide (PySem.W.mroIn K (He.ga K "Registers") (.type "object") = some true) && (decide (PySem.W.keepIn K (.ref (He.ga K "InvalidMachine")) = true) && (decide (PySem.W.excIn K (He.ga K "InvalidMachine") [.type "ValueError", .type "Exception", .type "BaseException", .type "object"] "ValueError.__new__" = true) && (decide (PySem.W.subIn K (.ref (He.ga K "InvalidMachine")) (.type "BaseException") = some true) && (decide (PySem.W.typeIn K (.ref (He.ga K "InvalidMachine")) = some (.type "type")) && (decide (PySem.W.hasDictIn K (He.ga K "InvalidMachine") = true) && (decide (PySem.W.subIn K (.ref (He.ga K "InvalidMachine")) (.ref (He.ga K "InvalidMachine")) = some true) && (decide (PySem.W.findIn K (.ref (He.ga K "InvalidMachine")) "__getattribute__" = some (some (.builtin "BaseException.__getattribute__"))) && (decide (PySem.W.findIn K (.ref (He.ga K "InvalidMachine")) "__getattr__" = some none) && (decide (PySem.W.findIn K (.ref (He.ga K "InvalidMachine")) "__class__" = some (some (.builtin "object.__class__"))) && (decide (PySem.W.mroIn K (He.ga K "InvalidMachine") (.type "object") = some true) && (decide (PySem.W.keepIn K (.ref (He.ga K "BadArgument")) = true) && (decide (PySem.W.excIn K (He.ga K "BadArgument") [.type "ValueError", .type "Exception", .type "BaseException", .type "object"] "ValueError.__new__" = true) && true)))))))))))))))))))
def ex2 (K : PySem.W.Frag) : Bool := decide (PySem.W.subIn K (.ref (He.ga K "BadArgument")) (.type "BaseException") = some true) && (decide (PySem.W.typeIn K (.ref (He.ga K "BadArgument")) = some (.type "type")) && (decide (PySem.W.hasDictIn K (He.ga K "BadArgument") = true) && (decide (PySem.W.subIn K (.ref (He.ga K "BadArgument")) (.ref (He.ga K "BadArgument")) = some true) && (decide (PySem.W.findIn K (.ref (He.ga K "BadArgument")) "__getattribute__" = some (some (.builtin "BaseException.__getattribute__"))) && (decide (PySem.W.findIn K (.ref (He.ga K "BadArgument")) "__getattr__" = some none) && (decide (PySem.W.findIn K (.ref (He.ga K "BadArgument")) "__class__" = some (some (.builtin "object.__class__"))) && (decide (PySem.W.mroIn K (He.ga K "BadArgument") (.type "object") = some true) && (decide (PySem.W.kitOne K (.ref (He.ga K "Turing")) (.ref (He.ga K "Registers")) = some false) && (decide (PySem.W.kitOne K (.ref (He.ga K "Registers")) (.ref (He.ga K "Turing")) = some false) && (decide (PySem.W.nsIn K mainGlobals "refuse_negative" = some (some (.ref (He.ga K "refuse_negative")))) && (decide (PySem.W.keepIn K (.ref (He.ga K "refuse_negative")) = true) && (decide (PySem.W.nsIn K mainGlobals "after" = some (some (.ref (He.ga K "after")))) && (decide (PySem.W.keepIn K (.ref (He.ga K "after")) = true) && (decide (PySem.W.nsIn K mainGlobals "history" = some (some (.ref (He.ga K "history")))) && (decide (PySem.W.keepIn K (.ref (He.ga K "history")) = true) && (decide (PySem.W.nsIn K mainGlobals "_names_what_is_there" = some (some (.ref (He.ga K "_names_what_is_there")))) && (decide (PySem.W.keepIn K (.ref (He.ga K "_names_what_is_there")) = true) && (decide (PySem.W.findIn K (.ref (He.ga K "Registers")) "__init__" = some (some (.ref (He.ma K (He.ga K "Registers") "__init__")))) && (decide (PySem.W.isFn K (.ref (He.ma K (He.ga K "Registers") "__init__")) = true) && true)))))))))))))))))))
def ex3 (K : PySem.W.Frag) : Bool := decide (PySem.W.keepIn K (.ref (He.ma K (He.ga K "Registers") "__init__")) = true) && (decide (PySem.W.findIn K (.ref (He.ga K "Registers")) "__eq__" = some (some (.ref (He.ma K (He.ga K "Registers") "__eq__")))) && (decide (PySem.W.isFn K (.ref (He.ma K (He.ga K "Registers") "__eq__")) = true) && (decide (PySem.W.keepIn K (.ref (He.ma K (He.ga K "Registers") "__eq__")) = true) && (Hd.eqB K (He.ga K "Registers") (He.ma K (He.ga K "Registers") "__eq__") && (decide (PySem.W.nsIn K mainGlobals "_changed" = some (some (.ref (He.ga K "_changed")))) && (decide (PySem.W.keepIn K (.ref (He.ga K "_changed")) = true) && (decide (PySem.W.findIn K (.ref (He.ga K "Registers")) "step" = some (some (.ref (He.ma K (He.ga K "Registers") "step")))) && (decide (PySem.W.isFn K (.ref (He.ma K (He.ga K "Registers") "step")) = true) && (decide (PySem.W.keepIn K (.ref (He.ma K (He.ga K "Registers") "step")) = true) && (decide (PySem.W.nsIn K mainGlobals "_are_rules" = some (some (.ref (He.ga K "_are_rules")))) && (decide (PySem.W.keepIn K (.ref (He.ga K "_are_rules")) = true) && (decide (PySem.W.findIn K (.ref (He.ga K "Turing")) "__init__" = some (some (.ref (He.ma K (He.ga K "Turing") "__init__")))) && (decide (PySem.W.isFn K (.ref (He.ma K (He.ga K "Turing") "__init__")) = true) && (decide (PySem.W.keepIn K (.ref (He.ma K (He.ga K "Turing") "__init__")) = true) && (decide (PySem.W.findIn K (.ref (He.ga K "Turing")) "__eq__" = some (some (.ref (He.ma K (He.ga K "Turing") "__eq__")))) && (decide (PySem.W.isFn K (.ref (He.ma K (He.ga K "Turing") "__eq__")) = true) && (decide (PySem.W.keepIn K (.ref (He.ma K (He.ga K "Turing") "__eq__")) = true) && (Hd.eqB K (He.ga K "Turing") (He.ma K (He.ga K "Turing") "__eq__") && (decide (PySem.W.findIn K (.ref (He.ga K "Turing")) "step" = some (some (.ref (He.ma K (He.ga K "Turing") "step")))) && true)))))))))))))))))))
def ex4 (K : PySem.W.Frag) : Bool := decide (PySem.W.isFn K (.ref (He.ma K (He.ga K "Turing") "step")) = true) && (decide (PySem.W.keepIn K (.ref (He.ma K (He.ga K "Turing") "step")) = true) && (decide (PySem.W.findIn K (.ref (He.ga K "Turing")) "rule" = some (some (.ref (He.ma K (He.ga K "Turing") "rule")))) && (decide (PySem.W.isFn K (.ref (He.ma K (He.ga K "Turing") "rule")) = true) && (decide (PySem.W.keepIn K (.ref (He.ma K (He.ga K "Turing") "rule")) = true) && (decide (PySem.W.nsIn K mainGlobals "without_end_blanks" = some (some (.ref (He.ga K "without_end_blanks")))) && (decide (PySem.W.keepIn K (.ref (He.ga K "without_end_blanks")) = true) && (decide (PySem.W.nsIn K mainGlobals "start" = some (some (.ref (He.ga K "start")))) && (decide (PySem.W.keepIn K (.ref (He.ga K "start")) = true) && (decide (PySem.W.nsIn K mainGlobals "content" = some (some (.ref (He.ga K "content")))) && (decide (PySem.W.keepIn K (.ref (He.ga K "content")) = true) && (decide (PySem.W.nsIn K mainGlobals "_refuse_limit" = some (some (.ref (He.ga K "_refuse_limit")))) && (decide (PySem.W.keepIn K (.ref (He.ga K "_refuse_limit")) = true) && (decide (PySem.W.nsIn K mainGlobals "_head_cells" = some (some (.ref (He.ga K "_head_cells")))) && (decide (PySem.W.keepIn K (.ref (He.ga K "_head_cells")) = true) && (decide (PySem.W.nsIn K mainGlobals "_note" = some (some (.ref (He.ga K "_note")))) && (decide (PySem.W.keepIn K (.ref (He.ga K "_note")) = true) && (decide (PySem.W.nsIn K mainGlobals "_are_near" = some (some (.ref (He.ga K "_are_near")))) && (decide (PySem.W.keepIn K (.ref (He.ga K "_are_near")) = true) && (decide (PySem.W.nsIn K mainGlobals "_are_same" = some (some (.ref (He.ga K "_are_same")))) && true)))))))))))))))))))
def ex5 (K : PySem.W.Frag) : Bool := decide (PySem.W.keepIn K (.ref (He.ga K "_are_same")) = true) && (decide (PySem.W.nsIn K mainGlobals "_is_shift" = some (some (.ref (He.ga K "_is_shift")))) && (decide (PySem.W.keepIn K (.ref (He.ga K "_is_shift")) = true) && (decide (PySem.W.nsIn K mainGlobals "_named" = some (some (.ref (He.ga K "_named")))) && (decide (PySem.W.keepIn K (.ref (He.ga K "_named")) = true) && (decide (PySem.W.nsIn K mainGlobals "_found_shift" = some (some (.ref (He.ga K "_found_shift")))) && (decide (PySem.W.keepIn K (.ref (He.ga K "_found_shift")) = true) && (decide (PySem.W.nsIn K mainGlobals "_is_growth" = some (some (.ref (He.ga K "_is_growth")))) && (decide (PySem.W.keepIn K (.ref (He.ga K "_is_growth")) = true) && (decide (PySem.W.nsIn K mainGlobals "_found_growth" = some (some (.ref (He.ga K "_found_growth")))) && (decide (PySem.W.keepIn K (.ref (He.ga K "_found_growth")) = true) && (decide (PySem.W.nsIn K mainGlobals "_found" = some (some (.ref (He.ga K "_found")))) && (decide (PySem.W.keepIn K (.ref (He.ga K "_found")) = true) && (decide (PySem.W.nsIn K mainGlobals "judge" = some (some (.ref (He.ga K "judge")))) && (decide (PySem.W.keepIn K (.ref (He.ga K "judge")) = true) && (decide (PySem.W.nsIn K mainGlobals "power" = some (some (.ref (He.ga K "power")))) && (decide (PySem.W.keepIn K (.ref (He.ga K "power")) = true) && (decide (PySem.W.nsIn K mainGlobals "_refuse_states" = some (some (.ref (He.ga K "_refuse_states")))) && (decide (PySem.W.keepIn K (.ref (He.ga K "_refuse_states")) = true) && (decide (PySem.W.nsIn K mainGlobals "_entry_count" = some (some (.ref (He.ga K "_entry_count")))) && true)))))))))))))))))))
def ex6 (K : PySem.W.Frag) : Bool := decide (PySem.W.keepIn K (.ref (He.ga K "_entry_count")) = true) && (decide (PySem.W.nsIn K mainGlobals "machine_count" = some (some (.ref (He.ga K "machine_count")))) && (decide (PySem.W.keepIn K (.ref (He.ga K "machine_count")) = true) && (decide (PySem.W.nsIn K mainGlobals "_refuse_index" = some (some (.ref (He.ga K "_refuse_index")))) && (decide (PySem.W.keepIn K (.ref (He.ga K "_refuse_index")) = true) && (decide (PySem.W.nsIn K mainGlobals "_rule" = some (some (.ref (He.ga K "_rule")))) && (decide (PySem.W.keepIn K (.ref (He.ga K "_rule")) = true) && (decide (PySem.W.nsIn K mainGlobals "machine_at" = some (some (.ref (He.ga K "machine_at")))) && (decide (PySem.W.keepIn K (.ref (He.ga K "machine_at")) = true) && (decide (PySem.W.nsIn K mainGlobals "_greater" = some (some (.ref (He.ga K "_greater")))) && (decide (PySem.W.keepIn K (.ref (He.ga K "_greater")) = true) && (decide (PySem.W.nsIn K mainGlobals "census" = some (some (.ref (He.ga K "census")))) && (decide (PySem.W.keepIn K (.ref (He.ga K "census")) = true) && (decide (PySem.W.nsIn K mainGlobals "_law_cell" = some (some (.ref (He.ga K "_law_cell")))) && (decide (PySem.W.keepIn K (.ref (He.ga K "_law_cell")) = true) && (decide (PySem.W.nsIn K mainGlobals "_law_draws" = some (some (.ref (He.ga K "_law_draws")))) && (decide (PySem.W.keepIn K (.ref (He.ga K "_law_draws")) = true) && (decide (PySem.W.nsIn K mainGlobals "_law_like" = some (some (.ref (He.ga K "_law_like")))) && (decide (PySem.W.keepIn K (.ref (He.ga K "_law_like")) = true) && (decide (PySem.W.nsIn K mainGlobals "_law_strip" = some (some (.ref (He.ga K "_law_strip")))) && true)))))))))))))))))))
def ex7 (K : PySem.W.Frag) : Bool := decide (PySem.W.keepIn K (.ref (He.ga K "_law_strip")) = true) && (decide (PySem.W.nsIn K mainGlobals "_law_turing_step" = some (some (.ref (He.ga K "_law_turing_step")))) && (decide (PySem.W.keepIn K (.ref (He.ga K "_law_turing_step")) = true) && (decide (PySem.W.nsIn K mainGlobals "_law_table" = some (some (.ref (He.ga K "_law_table")))) && (decide (PySem.W.keepIn K (.ref (He.ga K "_law_table")) = true) && (decide (PySem.W.nsIn K mainGlobals "_law_registers_step" = some (some (.ref (He.ga K "_law_registers_step")))) && (decide (PySem.W.keepIn K (.ref (He.ga K "_law_registers_step")) = true) && (decide (PySem.W.nsIn K mainGlobals "_law_own_run" = some (some (.ref (He.ga K "_law_own_run")))) && (decide (PySem.W.keepIn K (.ref (He.ga K "_law_own_run")) = true) && (decide (PySem.W.nsIn K mainGlobals "_law_places" = some (some (.ref (He.ga K "_law_places")))) && (decide (PySem.W.keepIn K (.ref (He.ga K "_law_places")) = true) && (decide (PySem.W.nsIn K mainGlobals "_law_symbol_at" = some (some (.ref (He.ga K "_law_symbol_at")))) && (decide (PySem.W.keepIn K (.ref (He.ga K "_law_symbol_at")) = true) && (decide (PySem.W.nsIn K mainGlobals "_law_right_paper" = some (some (.ref (He.ga K "_law_right_paper")))) && (decide (PySem.W.keepIn K (.ref (He.ga K "_law_right_paper")) = true) && (decide (PySem.W.nsIn K mainGlobals "_law_sought" = some (some (.ref (He.ga K "_law_sought")))) && (decide (PySem.W.keepIn K (.ref (He.ga K "_law_sought")) = true) && (decide (PySem.W.nsIn K mainGlobals "_law_bad" = some (some (.ref (He.ga K "_law_bad")))) && (decide (PySem.W.keepIn K (.ref (He.ga K "_law_bad")) = true) && (decide (PySem.W.nsIn K mainGlobals "_law_entries" = some (some (.ref (He.ga K "_law_entries")))) && true)))))))))))))))))))
def ex8 (K : PySem.W.Frag) : Bool := decide (PySem.W.keepIn K (.ref (He.ga K "_law_entries")) = true) && (decide (PySem.W.nsIn K mainGlobals "law" = some (some (.ref (He.ga K "law")))) && (decide (PySem.W.keepIn K (.ref (He.ga K "law")) = true) && (decide (PySem.W.nsIn K mainGlobals "abs" = some none) && (decide (PySem.W.nsIn K mainGlobals "all" = some none) && (decide (PySem.W.nsIn K mainGlobals "bool" = some none) && (decide (PySem.W.nsIn K mainGlobals "divmod" = some none) && (decide (PySem.W.nsIn K mainGlobals "enumerate" = some none) && (decide (PySem.W.nsIn K mainGlobals "int" = some none) && (decide (PySem.W.nsIn K mainGlobals "isinstance" = some none) && (decide (PySem.W.nsIn K mainGlobals "len" = some none) && (decide (PySem.W.nsIn K mainGlobals "list" = some none) && (decide (PySem.W.nsIn K mainGlobals "max" = some none) && (decide (PySem.W.nsIn K mainGlobals "min" = some none) && (decide (PySem.W.nsIn K mainGlobals "range" = some none) && (decide (PySem.W.nsIn K mainGlobals "reversed" = some none) && (decide (PySem.W.nsIn K mainGlobals "sorted" = some none) && (decide (PySem.W.nsIn K mainGlobals "str" = some none) && (decide (PySem.W.nsIn K mainGlobals "tuple" = some none) && (decide (PySem.W.nsIn K mainGlobals "zip" = some none) && true)))))))))))))))))))
def ex9 (K : PySem.W.Frag) : Bool := Hd.intB K "MOST_REGISTERS" 2000 && (Hd.intB K "MOST_INSTRUCTIONS" 100000 && (Hd.intB K "MOST_STATES_turing" 20000 && (Hd.intB K "MOST_SYMBOLS" 400 && (Hd.intB K "BLANK" 0 && (Hd.intB K "GREATEST_LIMIT" 300 && (Hd.intB K "MOST_STATES_census" 6 && (Hd.intB K "MOST_MACHINES" 2000 && (Hd.intB K "MARK" 1 && true))))))))
def exL (K : PySem.W.Frag) : Bool := ex0 K && (ex1 K && (ex2 K && (ex3 K && (ex4 K && (ex5 K && (ex6 K && (ex7 K && (ex8 K && (ex9 K && true)))))))))
def FA : Hd.Facts := ⟨exL, fnL, supL, kdL⟩
def as_0 : List Addr := [3, 0, 1, 2, 4, 5, 6, 7, 8, 9, 10, 183, 117, 44, 56, 79, 65, 72, 126, 133]
def as_1 : List Addr := [206, 213, 194, 201, 227, 241, 234, 267, 260, 253, 303, 291, 246, 296, 274, 220, 310, 338, 352, 317]
def as_2 : List Addr := [345, 359, 324, 366, 331, 373, 380, 385, 392, 399, 406, 413, 420, 427, 434, 439, 446, 453, 460, 465]
def as_3 : List Addr := [182, 116, 43, 31, 55, 78, 64, 71, 125, 132, 205, 212, 193, 200, 226, 240, 233, 266, 259, 252]
def as_4 : List Addr := [302, 290, 245, 295, 273, 219, 309, 337, 351, 316, 344, 358, 323, 365, 330, 372, 379, 384, 391, 398]
def as_5 : List Addr := [405, 412, 419, 426, 433, 438, 445, 452, 459, 464, 145, 152, 159, 166, 173, 180, 181, 184, 185, 93]
def as_6 : List Addr := [100, 107, 114, 115, 118, 119, 42, 30, 54, 73, 74, 75, 76, 77, 59, 60, 61, 62, 63, 66]
def as_7 : List Addr := [67, 68, 69, 70, 122, 123, 124, 127, 128, 129, 130, 131, 202, 203, 204, 207, 208, 209, 210, 211]
def as_8 : List Addr := [188, 189, 190, 191, 192, 195, 196, 197, 198, 199, 221, 222, 223, 224, 225, 235, 236, 237, 238, 239]
def as_9 : List Addr := [228, 229, 230, 231, 232, 261, 262, 263, 264, 265, 254, 255, 256, 257, 258, 247, 248, 249, 250, 251]
def as_10 : List Addr := [297, 298, 299, 300, 301, 287, 288, 289, 242, 243, 244, 292, 293, 294, 268, 269, 270, 271, 272, 214]
def as_11 : List Addr := [215, 216, 217, 218, 304, 305, 306, 307, 308, 332, 333, 334, 335, 336, 346, 347, 348, 349, 350, 311]
def as_12 : List Addr := [312, 313, 314, 315, 339, 340, 341, 342, 343, 353, 354, 355, 356, 357, 318, 319, 320, 321, 322, 360]
def as_13 : List Addr := [361, 362, 363, 364, 325, 326, 327, 328, 329, 367, 368, 369, 370, 371, 374, 375, 376, 377, 378, 381]
def as_14 : List Addr := [382, 383, 386, 387, 388, 389, 390, 393, 394, 395, 396, 397, 400, 401, 402, 403, 404, 407, 408, 409]
def as_15 : List Addr := [410, 411, 414, 415, 416, 417, 418, 421, 422, 423, 424, 425, 428, 429, 430, 431, 432, 435, 436, 437]
def as_16 : List Addr := [440, 441, 442, 443, 444, 447, 448, 449, 450, 451, 454, 455, 456, 457, 458, 461, 462, 463, 144, 151]
def as_17 : List Addr := [158, 165, 172, 179, 92, 99, 106, 113, 29, 32, 141, 142, 143, 146, 147, 148, 149, 150, 153, 154]
def as_18 : List Addr := [155, 156, 157, 160, 161, 162, 163, 164, 167, 168, 169, 170, 171, 174, 175, 176, 177, 178, 87, 88]
def as_19 : List Addr := [89, 90, 91, 94, 95, 96, 97, 98, 101, 102, 103, 104, 105, 108, 109, 110, 111, 112]
def as_ : List Addr := as_0 ++ as_1 ++ as_2 ++ as_3 ++ as_4 ++ as_5 ++ as_6 ++ as_7 ++ as_8 ++ as_9 ++ as_10 ++ as_11 ++ as_12 ++ as_13 ++ as_14 ++ as_15 ++ as_16 ++ as_17 ++ as_18 ++ as_19
def nm_0 : List PySem.Str := ["_wall", "TranslatoryError", "InvalidMachine", "BadArgument", "after", "history", "refuse_negative", "MOST_REGISTERS", "MOST_INSTRUCTIONS", "Registers", "_names_what_is_there", "_changed", "MOST_STATES_turing", "MOST_SYMBOLS", "BLANK", "Turing", "start", "content", "_are_rules", "without_end_blanks"]
def nm_1 : List PySem.Str := ["GREATEST_LIMIT", "judge", "_refuse_limit", "_note", "_head_cells", "_is_growth", "_is_shift", "_are_same", "_are_near", "_found", "_found_repeat", "_flat", "_found_shift", "_found_growth", "_named", "power", "MOST_STATES_census", "MOST_MACHINES", "MARK", "machine_count"]
def nm_2 : List PySem.Str := ["machine_at", "census", "_refuse_states", "_refuse_index", "_entry_count", "_rule", "_greater", "_law_cell", "_law_draws", "_law_like", "_law_strip", "_law_turing_step", "_law_table", "_law_registers_step", "_law_own_run", "_law_places", "_law_symbol_at", "_law_right_paper", "_law_sought", "_law_bad"]
def nm_3 : List PySem.Str := ["_law_entries"]
def nm_ : List PySem.Str := nm_0 ++ nm_1 ++ nm_2 ++ nm_3
abbrev RR : PySem.W.OpenRow := PySem.W.OpenLaw.row PySem.Challenge.rw_translatory_k89_censuses
abbrev qv : Program := PySem.W.view RR.prog [69]
theorem run (w : World) : HandSHeadRun.RunEq RR qv (Hd.hook as_ FA) (Hd.ob as_ FA) 3309 nm_ w := by
  intro os
  kernel_rfl

end K89

set_option maxHeartbeats 4000000
namespace K89.KT
open PySem L2 Ly Tu TS RT
def A_are : Sig := fun ds P => ∃ (rows : List (List Int)) (st sy : Int), rows.length < 64 ∧ (∀ r ∈ rows, r.length = 5) ∧ ds = [.lst (rows.map rowD), .int st, .int sy] ∧ P = (· = .bl (rows.all (goodB st sy)))
def partsD : Dat → List Dat
  | .tup ds => ds
  | _ => []
theorem mv_three (m : Int) : decide (m ∈ [-1, 0, 1]) = (decide (-1 ≤ m) && decide (m ≤ 1)) := by
  by_cases h1 : -1 ≤ m
  · by_cases h2 : m ≤ 1
    · rw [decide_eq_true h1, decide_eq_true h2, decide_eq_true]
      · rfl
      · have : m = -1 ∨ m = 0 ∨ m = 1 := by omega
        rcases this with rfl | rfl | rfl <;> decide
    · rw [decide_eq_false h2, Bool.and_false, decide_eq_false]
      intro h
      simp at h
      omega
  · rw [decide_eq_false h1, Bool.false_and, decide_eq_false]
    intro h
    simp at h
    omega
theorem all_take_false {α : Type} {p : α → Bool} {xs : List α} {x : α} (hm : x ∈ xs) (h : p x = false) : xs.all p = false := by
  rw [List.all_eq_false]
  exact ⟨x, hm, by rw [h]; simp⟩
section
variable {P : Program} {w : World} {K : PySem.W.Frag} {mg : Str → Option Value} {base : Heap} {C_Turing C_Registers C_InvalidMachine C_BadArgument : Addr}
theorem ok_are (D : Df K mg "_are_rules" s_are_rules) (T : Txt K w mg C_Turing C_Registers C_InvalidMachine C_BadArgument) : C8.Cal P w K mg base 1 "_are_rules" (spOf Wd0 K A_are) [] := by
  refine cal_of D (fun _ _ _ _ _ _ us hl => match us, hl with | [_, _, _], _ => rfl) sc_are_rules (spOf_len (n := 3) fun _ _ ⟨_, _, _, _, _, e, _⟩ => by rw [e]; rfl) fun f cdv A outer s H0 vs Q E hr h => ⟨_, (pss_cons (ps_if (pt_not (pt_val (pe_callB (r := rAll K) (cr_all rfl) (by rfl) T.n_all (by decide +kernel) (pa_cons (pe_lc (own := [("rule", 8)]) (g := gName 8) (tt := tYes) rfl sc_are_rules.nd (pi_list (pv 0)) (blkOk_by (N := N_are_rules) (sc := defScope s_are_rules) (by decide +kernel)) (fun _ _ _ _ _ => pg_name (i := 8) sc_are_rules.nd rfl (Or.inl rfl)) (fun _ _ _ _ _ => pts_nil) (fun _ _ _ _ _ => (pe_cmpR op_eq (pe_callB (r := Ly.rLen K) call_len_seq (by rfl) T.n_len PySem.boot_len (pa_cons (pv 8) pa_nil)) pe_int (nomark _)))) pa_nil)))) (pss_one (ps_ret pe_bl)) pss_nil)
      (pss_cons (ps_for PassesOwn.never rfl (pi_list (pv 0)) (pg_tup rfl (pgs_cons (pg_name (i := 3) sc_are_rules.nd rfl (by first | exact Or.inl rfl | exact Or.inr rfl)) (pgs_cons (pg_name (i := 4) sc_are_rules.nd rfl (by first | exact Or.inl rfl | exact Or.inr rfl)) (pgs_cons (pg_name (i := 5) sc_are_rules.nd rfl (by first | exact Or.inl rfl | exact Or.inr rfl)) (pgs_cons (pg_name (i := 6) sc_are_rules.nd rfl (by first | exact Or.inl rfl | exact Or.inr rfl)) (pgs_cons (pg_name (i := 7) sc_are_rules.nd rfl (by first | exact Or.inl rfl | exact Or.inr rfl)) pgs_nil))))))
        (pss_one (ps_if (pt_not (PW.pt (pw_and (pt_chain op_le op_lt pe_int (pv 3) (pv 1)) (pw_and (pt_chain op_le op_lt pe_int (pv 7) (pv 1)) (pw_and (pt_chain op_le op_lt pe_int (pv 4) (pv 2)) (pw_and (pt_chain op_le op_lt pe_int (pv 5) (pv 2)) (pw_and1 (pt_chain op_le op_le (pe_un un_neg pe_int) (pv 6) pe_int)))))))) (pss_one (ps_ret pe_bl)) pss_nil)))
      (pss_one (ps_ret pe_bl)))), ?_⟩
  obtain ⟨G0, ds, P, k, r, ⟨rows, st, sy, hlen, h5, rfl, rfl⟩, qq⟩ := h
  have S := S4.start (N := N_are_rules) k r
  refine q_when (P := (· = false)) (EvBX.to (b_notx (a := true) (b_Bx (EvX.to (v_all (bs := rows.map fun _ => true) (EvX.to (EvN.evx (R := (· = rows.map fun _ => Dat.bl true)) (n_lcM (us := rows) (f := rowD) (g := fun _ => Dat.bl true) (v_var rfl) (by omega) fun x hx => EvX.to (v_eqI (v_lenT (v_var rfl)) v_int) ?_) fun ds e => e) (by rw [List.map_map]; rfl))) ?_))) rfl) S (fun e => nomatch e) fun _ G H S => ?_
  · rw [List.length_map, h5 x hx]
    rfl
  · congr 1
    rw [List.all_eq_true]
    intro b hb
    obtain ⟨x, hx, rfl⟩ := List.mem_map.mp hb
    rfl
  refine q_forL2 (ds := rows.map rowD) (us := partsD) (js := [3, 4, 5, 6, 7]) (v_var rfl) (fun d hd => ?_) S (fun i Γ O => O = [] ∧ (∃ z1 z2 z3 z4 z5 z6, Γ = [some (.lst (rows.map rowD)), some (.int st), some (.int sy), z1, z2, z3, z4, z5, z6]) ∧ (rows.take i).all (goodB st sy) = true) ⟨rfl, ⟨_, _, _, _, _, _, rfl⟩, rfl⟩ ?_ ?_
  · obtain ⟨y, hy, rfl⟩ := List.mem_map.mp hd
    exact ⟨rfl, by show (y.map Dat.int).length = 5; rw [List.length_map, h5 y hy]⟩
  · rintro G1 i d Γ O σ G H hd ⟨rfl, ⟨z1, z2, z3, z4, z5, z6, rfl⟩, hall⟩ S
    obtain ⟨y, hy, rfl⟩ := lt_get hd
    have hm := List.mem_of_getElem? hy
    have hy5 := h5 y hm
    match y, hy5 with
    | [q, sb, wr, mv, fo], _ =>
      refine g_if (P := (· = !goodB st sy [q, sb, wr, mv, fo])) (EvBX.to (b_notx (b_andx (b_testx (v_chain v_int (v_var rfl) (v_var rfl) r_le r_lt)) fun _ => b_andx (b_testx (v_chain v_int (v_var rfl) (v_var rfl) r_le r_lt)) fun _ => b_andx (b_testx (v_chain v_int (v_var rfl) (v_var rfl) r_le r_lt)) fun _ => b_andx (b_testx (v_chain v_int (v_var rfl) (v_var rfl) r_le r_lt)) fun _ => b_testx (v_chain (v_neg v_int) (v_var rfl) v_int r_le r_le))) ?_) S (fun e G H S => ?_) (fun e G H S => ⟨_, _, _, ⟨rfl, ⟨_, _, _, _, _, _, rfl⟩, ?_⟩, S⟩)
      · show _ = !(_ && (_ && (_ && (_ && decide (mv ∈ [-1, 0, 1])))))
        rw [mv_three]
      · have e : goodB st sy [q, sb, wr, mv, fo] = false := by simpa using e.symm
        exact g_ret (P := (· = .bl (rows.all (goodB st sy)))) (EvX.to v_bl (by rw [all_take_false hm e])) S qq
      · have e : goodB st sy [q, sb, wr, mv, fo] = true := by simpa using e.symm
        rw [List.take_succ, hy]
        simp [List.all_append, hall, e]
  rintro Γ O σ G H ⟨rfl, ⟨z1, z2, z3, z4, z5, z6, rfl⟩, hall⟩ S
  rw [List.length_map, List.take_length] at hall
  exact g_ret (EvX.to v_bl (by rw [hall])) S qq
end

def A_tinit : InitQ := fun ds b F => ∃ (st sy : Int) (rows : List (List Int)), (∀ r ∈ rows, r.length = 5) ∧ rows.length < 64 ∧ ds = [.int st, .int sy, .lst (rows.map rowD)] ∧ b = tOk st sy rows ∧ F = TurG st sy rows
def A_rule (C : Addr) : Sig := fun ds P => ∃ (st sy : Int) (rows : List (List Int)) (fsd : List (Str × Dat)) (q s : Int), TurG st sy rows fsd ∧ ds = [.obj C fsd, .int q, .int s] ∧ P = (· = deedD rows q s)
def A_side (C : Addr) : Sig := fun ds P => ∃ (st sy : Int) (rows : List (List Int)) (fsd : List (Str × Dat)) (l : List Int), TurG st sy rows fsd ∧ l.length ≤ 1000 ∧ ds = [.obj C fsd, .tup (dI l)] ∧ P = (· = .bl (sideB sy l))
def A_conf (C : Addr) : Sig := fun ds P => ∃ (st sy : Int) (rows : List (List Int)) (fsd : List (Str × Dat)) (q s : Int) (l r : List Int), TurG st sy rows fsd ∧ l.length ≤ 1000 ∧ r.length ≤ 1000 ∧ ds = [.obj C fsd, cfD q l s r] ∧ P = (· = .bl (confB st sy q l s r))
def A_teq (C : Addr) : Sig := fun ds P => ∃ (st sy : Int) (ss : List (List Int)) (es es2 : List (List Key × Dat)), ss.length ≤ 64 ∧ (∀ r ∈ ss, r.length = 5) ∧ ds = [.obj C [(("states" : Str), Dat.int st), (("symbols" : Str), Dat.int sy), (("rules" : Str), Dat.tup (ss.map rowD)), (("_rules_at" : Str), Dat.dct es)], .obj C [(("states" : Str), Dat.int st), (("symbols" : Str), Dat.int sy), (("rules" : Str), Dat.tup (ss.map rowD)), (("_rules_at" : Str), Dat.dct es2)]] ∧ P = (· = .bl true)
def toI : Dat → Int
  | .int i => i
  | _ => 0
def kfD : Dat → List Int
  | .tup ds => (ds.take 2).map toI
  | _ => []
theorem toI_map (ns : List Int) : (ns.map Dat.int).map toI = ns := by
  rw [List.map_map]
  exact List.map_id' ns
theorem kfD_row (r : List Int) : kfD (rowD r) = r.take 2 := by
  show ((r.map Dat.int).take 2).map toI = r.take 2
  rw [← List.map_take, toI_map]
abbrev foldR (es : List (List Key × Dat)) (ss : List (List Int)) : List (List Key × Dat) := ss.foldl (fun es r => putD es (iK (r.take 2)) (rowD r)) es
theorem fold_rows (ss : List (List Int)) (es : List (List Key × Dat)) : (ss.map rowD).foldl (fun es d => putD es (iK (kfD d)) d) es = foldR es ss := by
  rw [List.foldl_map]
  congr 1
  funext es r
  rw [kfD_row]
theorem no_fold : ∀ (ss : List (List Int)) {es : List (List Key × Dat)}, NOd es → NOd (foldR es ss)
  | [], _, h => h
  | r :: ss, es, h => no_fold ss (NOd.put (by rw [NO]; exact NOs.ints _) h)
section
variable {P : Program} {w : World} {K : PySem.W.Frag} {mg : Str → Option Value} {base : Heap} {C_Turing C_Registers C_InvalidMachine C_BadArgument : Addr}
theorem ok_tinit (M : ∃ f fd, Mk K C_Turing f ∧ Fun K "__init__" "Turing.__init__" s_Turing_init f fd) (T : Txt K w mg C_Turing C_Registers C_InvalidMachine C_BadArgument) (c_are_rules : C8.Cal P w K mg base 1 "_are_rules" (spOf Wd0 K A_are) []) : MakS P w K mg base 2 "Turing" C_Turing (spInitQ K C_Turing C_InvalidMachine A_tinit) := by
  refine maks_of M T.g_Turing (fun _ _ _ _ _ _ us hl => match us, hl with | [_, _, _, _], _ => rfl) sc_Turing_init (spInitQ_len (n := 3) fun _ _ _ ⟨_, _, _, _, _, e, _⟩ => by rw [e]; rfl) fun f cdv A outer s H0 vs Q E hr h => ⟨_, (pss_cons (ps_if (pt_not (pt_chain op_le op_le pe_int (pv 1) (C8.pe_gc (v := .int 20000) rfl T.m_MOST_STATES_turing))) (pss_one (ps_raiseE rfl (takes_of rfl rfl rfl rfl) T.e_InvalidMachine rfl)) pss_nil)
      (pss_cons (ps_if (pt_not (pt_chain op_le op_le pe_int (pv 2) (C8.pe_gc (v := .int 400) rfl T.m_MOST_SYMBOLS))) (pss_one (ps_raiseE rfl (takes_of rfl rfl rfl rfl) T.e_InvalidMachine rfl)) pss_nil)
      (pss_cons (ps_if (pt_not (pt_val (C8.pe_c c_are_rules hr (by decide) rfl (pa_cons (pv 3) (pa_cons (pv 1) (pa_cons (pv 2) pa_nil)))))) (pss_one (ps_raiseE rfl (takes_of rfl rfl rfl rfl) T.e_InvalidMachine rfl)) pss_nil)
      (pss_cons (ps_fld (pv 0) (pv 1) rfl)
      (pss_cons (ps_fld (pv 0) (pv 2) rfl)
      (pss_cons (ps_fld (pv 0) (pe_tupleOf rfl T.n_tuple (pe_callB (r := rSortS K 5 20000) (cr_sortS (by decide)) (by rfl) T.n_sorted (by decide +kernel) (pa_cons (pv 3) pa_nil))) rfl)
      (pss_cons (ps_fld (pv 0) (pe_dcG (O0 := .dT []) (own := [("rule", 4)]) (g := gName 4) (tt := tYes) accT_ok dt_new (units1 hr) rfl sc_Turing_init.nd (pi_tup (pe_fld (pv 0) rfl)) (blkOk_by (N := N_Turing_init) (sc := defScope s_Turing_init) (by decide +kernel)) (fun _ _ _ _ _ => pg_name (i := 4) sc_Turing_init.nd rfl (Or.inl rfl)) (fun _ _ _ _ _ => pts_nil) (fun _ _ _ _ _ => (pe_tup (pa_cons (pe_ix (r := rIxT K) ix_tup (pv 4) pe_int (fun _ _ => rfl)) (pa_cons (pe_ix (r := rIxT K) ix_tup (pv 4) pe_int (fun _ _ => rfl)) pa_nil)))) (fun _ _ _ _ _ => (pv 4))) rfl)
      (pss_one (ps_if (pt_cmpR op_lt (pe_callB call_len_dT (by rfl) T.n_len PySem.boot_len (pa_cons (pe_fld (pv 0) rfl) pa_nil)) (pe_callB (r := Ly.rLen K) call_len_seq (by rfl) T.n_len PySem.boot_len (pa_cons (pe_fld (pv 0) rfl) pa_nil)) (nomark _)) (pss_one (ps_raiseE rfl (takes_of rfl rfl rfl rfl) T.e_InvalidMachine rfl)) pss_nil))))))))), ?_⟩
  obtain ⟨G0, x, dx, ds, vs', b, F, rfl, k, rr, ⟨st, sy, rows, hl5, hlen, rfl, hb, rfl⟩, hE, hQ⟩ := h
  have bad : tOk st sy rows = false → ∀ H2, E (.ref C_InvalidMachine) none H2 := fun h H2 => hE (by rw [hb, h]) H2
  have S := S4.start (N := N_Turing_init) k (.cons (.adr x) rr)
  refine q_when (b_notx (b_testx (v_chain v_int (v_var rfl) v_int r_le r_le))) S (fun e G H S => ?_) fun e G H S => ?_
  · refine bad ?_ _
    have e : (decide (1 ≤ st) && decide (st ≤ 20000)) = false := by
      have z := e.symm
      rwa [Bool.not_eq_true'] at z
    unfold tOk
    rw [e]
    rfl
  have e1 : (decide (1 ≤ st) && decide (st ≤ 20000)) = true := by simpa using e.symm
  refine q_when (b_notx (b_testx (v_chain v_int (v_var rfl) v_int r_le r_le))) S (fun e G H S => ?_) fun e G H S => ?_
  · refine bad ?_ _
    have e : (decide (2 ≤ sy) && decide (sy ≤ 400)) = false := by
      have z := e.symm
      rwa [Bool.not_eq_true'] at z
    unfold tOk
    rw [e1, e]
    rfl
  have e2 : (decide (2 ≤ sy) && decide (sy ≤ 400)) = true := by simpa using e.symm
  refine q_when (P := (· = !rows.all (goodB st sy))) (b_notx (b_Bx (v_call0x (P := (· = .bl (rows.all (goodB st sy)))) (a_consx (v_var rfl) (a_consx (v_var rfl) (a_consx (v_var rfl) a_nil))) ⟨rows, st, sy, hlen, hl5, rfl, rfl⟩))) S (fun e G H S => ?_) fun e G H S => ?_
  · refine bad ?_ _
    have e : rows.all (goodB st sy) = false := by
      have z := e.symm
      rwa [Bool.not_eq_true'] at z
    unfold tOk
    rw [e1, e2, e]
    rfl
  have hall : rows.all (goodB st sy) = true := by simpa using e.symm
  have h2 : st ≤ 20000 := by simp at e1; omega
  have h4 : sy ≤ 400 := by simp at e2; omega
  have hg : ∀ r ∈ rows, goodB st sy r = true := fun r hr => List.all_eq_true.mp hall r hr
  refine q_fld (v_var rfl) (v_var rfl) T.cls_Turing T.na_Turing_states (by decide) S fun y1 d1 G1 H1 p1 r1 S => ?_
  subst p1
  refine q_fld (v_var rfl) (v_var rfl) T.cls_Turing T.na_Turing_symbols (by simp [putF]) (S4.here S) fun y2 d2 G2 H2 p2 r2 S => ?_
  subst p2
  have r1 := r1.mono S.fr
  refine q_fld (P := fun d => ∃ ss : List (List Int), d = .tup (ss.map rowD) ∧ ss.Perm rows ∧ ss.Pairwise fun n m => TS.rkS 20000 n ≤ TS.rkS 20000 m) (v_tupleL (P := fun _ => True) (EvN.ev (n_sortS (v_var rfl) hlen fun ns hns => goodB_bd (hg ns hns) h2 h4) fun ds ⟨ss, e, p, pw⟩ => ⟨ds, rfl, ss, by rw [e], p, pw⟩)) (v_var rfl) T.cls_Turing T.na_Turing_rules (Nat.lt_of_le_of_lt (Nat.le_trans (length_putF _ _ _) (Nat.succ_le_succ (length_putF _ _ _))) (by decide)) (S4.here S) fun y3 d3 G3 H3 p3 r3 S => ?_
  obtain ⟨ss, rfl, hp, hpw⟩ := p3
  have r1 := r1.mono S.fr
  have r2 := r2.mono S.fr
  have hs5 : ∀ r ∈ ss, r.length = 5 := fun r hr => hl5 r (hp.mem_iff.mp hr)
  refine q_fldI (i := 0) (fsd := [(("states" : Str), Dat.int st), (("symbols" : Str), Dat.int sy), (("rules" : Str), Dat.tup (ss.map rowD))]) (P := (· = .dct (foldR [] ss))) rfl (.cons r1 (.cons r2 (.cons r3 .nil))) (EvX.to (v_dcT (j := 4) (us := ss.map rowD) (kf := kfD) (vf := fun d => d) (v_fld (v_var rfl) T.cls_Turing T.na_Turing_rules rfl) (by rw [List.length_map, hp.length_eq]; omega) (fun d hd => ?_) (fun d hd => ?_) (fun d hd => ?_)) (congrArg Dat.dct (fold_rows ss []))) (fun d e => by rw [e, NO]; exact no_fold ss (by simp [NOd])) (v_var rfl) T.cls_Turing T.na_Turing__rules_at (show (3 : Nat) < 1000 by decide) (S4.here S) fun y4 d4 G4 H4 p4 r4 ex4 S => ?_
  · obtain ⟨r, hr, rfl⟩ := List.mem_map.mp hd
    have hl5 := hs5 r hr
    rw [kfD_row]
    match r, hl5 with
    | [q, s, w, m, f], _ => exact a_consx (v_ix0 (d := .int q) (v_var rfl) rfl) (a_consx (v_ixT (j := 1) (d := .int s) (v_var rfl) v_int rfl rfl) a_nil)
  · obtain ⟨r, hr, rfl⟩ := List.mem_map.mp hd
    rw [kfD_row, List.length_take]
    omega
  · obtain ⟨r, hr, rfl⟩ := List.mem_map.mp hd
    exact v_var rfl
  · subst p4
    have r1 := r1.mono ex4
    have r2 := r2.mono ex4
    have r3 := r3.mono ex4
    have fl : Flds K G4 _ [(("states" : Str), Dat.int st), (("symbols" : Str), Dat.int sy), (("rules" : Str), Dat.tup (ss.map rowD)), (("_rules_at" : Str), Dat.dct (foldR [] ss))] := .cons r1 (.cons r2 (.cons r3 (.cons r4 .nil)))
    have hperm : (ss.map (·.take 2)).Nodup ↔ (rows.map (·.take 2)).Nodup := (hp.map (·.take 2)).nodup_iff
    by_cases hnd : (rows.map (·.take 2)).Nodup
    · have hL : LookW ss (foldR [] ss) := LookV.fold (pre := []) LookV.nil (hperm.mpr hnd)
      refine g_ifI (i := 0) (P := (· = false)) rfl fl (EvBX.to (b_testx (v_lt (v_lenD (v_fld (v_var rfl) T.cls_Turing T.na_Turing__rules_at rfl)) (v_lenT (v_fld (v_var rfl) T.cls_Turing T.na_Turing_rules rfl)))) ?_) S (fun e => nomatch e) fun _ G H ex S => ?_
      · rw [hL.len, List.length_map, decide_eq_false (by omega)]
      · refine hQ ?_ _ ⟨ss, _, hp, hpw, hL.perm hp, nl_fold nl_rowD ss (by simp [NLd]), rfl⟩ G H _ S.stp (fl.mono ex)
        rw [hb]
        unfold tOk
        rw [e1, e2, hall, decide_eq_true hnd]
        rfl
    · have hsh : (foldR [] ss).length < ss.length := fold_short (pre := []) (es := []) (fun _ h => nomatch h) (Nat.le_refl _) (fun z => hnd (hperm.mp z)) (.inr List.nodup_nil)
      refine g_ifI (i := 0) (P := (· = true)) rfl fl (EvBX.to (b_testx (v_lt (v_lenD (v_fld (v_var rfl) T.cls_Turing T.na_Turing__rules_at rfl)) (v_lenT (v_fld (v_var rfl) T.cls_Turing T.na_Turing_rules rfl)))) ?_) S (fun _ G H ex S => ?_) (fun e => nomatch e)
      · rw [List.length_map, decide_eq_true (by omega)]
      · refine bad ?_ _
        unfold tOk
        rw [decide_eq_false hnd]
        simp
end
def A_step (C : Addr) : Sig := fun ds P => ∃ (st sy : Int) (rows : List (List Int)) (fsd : List (Str × Dat)) (q s : Int) (l r : List Int), TurF st sy rows fsd ∧ (∀ x ∈ rows, GoodR st sy x) ∧ l.length ≤ 1000 ∧ r.length ≤ 1000 ∧ ds = [.obj C fsd, cfD q l s r] ∧ P = (· = nextD rows q l s r)
theorem deed_some {rows : List (List Int)} {q s w m f : Int} (h : ruleOf rows q s = some [q, s, w, m, f]) : deedD rows q s = .tup [.int w, .int m, .int f] := by
  unfold deedD
  rw [h]
  rfl
theorem next_some {rows : List (List Int)} {q s w m f : Int} {l r : List Int} (h : ruleOf rows q s = some [q, s, w, m, f]) : nextD rows q l s r = stpD w m f l r := by
  unfold nextD
  rw [h]
theorem next_none {rows : List (List Int)} {q s : Int} {l r : List Int} (h : ruleOf rows q s = none) : nextD rows q l s r = .non := by
  unfold nextD
  rw [h]
theorem whole_some {rows : List (List Int)} {q s w m f : Int} (h : ruleOf rows q s = some [q, s, w, m, f]) : wholeD rows q s = rowD [q, s, w, m, f] := by
  unfold wholeD
  rw [h]
theorem whole_none {rows : List (List Int)} {q s : Int} (h : ruleOf rows q s = none) : wholeD rows q s = .non := by
  unfold wholeD
  rw [h]
theorem or_push (w : Int) (r : List Int) : ((!(dI r).isEmpty) || !decide (w = 0)) = !decide (w = 0 ∧ r = []) := by
  cases r with
  | nil => by_cases h : w = 0 <;> simp [h]
  | cons a b => simp
section
variable {P : Program} {w : World} {K : PySem.W.Frag} {mg : Str → Option Value} {base : Heap} {C_Turing C_Registers C_InvalidMachine C_BadArgument : Addr}
theorem ok_tstep (M : ∃ f fd, Meth K C_Turing "step" f ∧ Fun K "step" "Turing.step" s_Turing_step f fd) (T : Txt K w mg C_Turing C_Registers C_InvalidMachine C_BadArgument) : C8.Met P w K mg base 2 C_Turing "step" (spOf Wd0 K (A_step C_Turing)) [] := by
  refine met_of T.cls_Turing M (fun _ _ _ _ _ _ us hl => match us, hl with | [_, _], _ => rfl) sc_Turing_step (spOf_len (n := 2) fun _ _ ⟨_, _, _, _, _, _, _, _, _, _, _, _, e, _⟩ => by rw [e]; rfl) fun f cdv A outer s H0 vs Q E hr h => ⟨_, (pss_cons (ps_asg (pv 1) (pg_tup rfl (pgs_cons (pg_name (i := 2) sc_Turing_step.nd rfl (by first | exact Or.inl rfl | exact Or.inr rfl)) (pgs_cons (pg_name (i := 3) sc_Turing_step.nd rfl (by first | exact Or.inl rfl | exact Or.inr rfl)) (pgs_cons (pg_name (i := 4) sc_Turing_step.nd rfl (by first | exact Or.inl rfl | exact Or.inr rfl)) (pgs_cons (pg_name (i := 5) sc_Turing_step.nd rfl (by first | exact Or.inl rfl | exact Or.inr rfl)) pgs_nil))))))
      (pss_cons (ps_set (i := 6) sc_Turing_step.nd rfl (by first | exact Or.inl rfl | exact Or.inr rfl) (pe_dget1 (units1 hr) (pe_fld (pv 0) rfl) (pe_tup (pa_cons (pv 2) (pa_cons (pv 4) pa_nil))) ⟨rfl, rfl, rfl, rfl⟩))
      (pss_cons (ps_if (pt_cmp (pc_isN (pv 6))) (pss_one (ps_ret pe_non)) pss_nil)
      (pss_cons (ps_asg (pv 6) (pg_tup rfl (pgs_cons (pg_name (i := 7) sc_Turing_step.nd rfl (by first | exact Or.inl rfl | exact Or.inr rfl)) (pgs_cons (pg_name (i := 7) sc_Turing_step.nd rfl (by first | exact Or.inl rfl | exact Or.inr rfl)) (pgs_cons (pg_name (i := 8) sc_Turing_step.nd rfl (by first | exact Or.inl rfl | exact Or.inr rfl)) (pgs_cons (pg_name (i := 9) sc_Turing_step.nd rfl (by first | exact Or.inl rfl | exact Or.inr rfl)) (pgs_cons (pg_name (i := 10) sc_Turing_step.nd rfl (by first | exact Or.inl rfl | exact Or.inr rfl)) pgs_nil)))))))
      (pss_cons (ps_if (pt_cmpR op_eq (pv 9) pe_int (nomark _)) (pss_one (ps_ret (pe_tup (pa_cons (pv 10) (pa_cons (pv 3) (pa_cons (pv 8) (pa_cons (pv 5) pa_nil))))))) pss_nil)
      (pss_cons (ps_if (pt_cmpR op_eq (pv 9) pe_int (nomark _)) (Evl.pss_cut (ps_if (PW.pt (pw_or (pt_truth (pv 3) (fun _ => rfl)) (pw_or1 (pt_cmpR op_ne (pv 8) (C8.pe_gc (v := .int 0) rfl T.m_BLANK) (nomark _))))) (pss_one (ps_set (i := 3) sc_Turing_step.nd rfl (by first | exact Or.inl rfl | exact Or.inr rfl) (pe_op (r := rCatA K) op_catA (pe_tup (pa_cons (pv 8) pa_nil)) (pv 3)))) pss_nil)
      (pss_cons (ps_if (pt_truth (pv 5) (fun _ => rfl)) (pss_one (ps_ret (pe_tup (pa_cons (pv 10) (pa_cons (pv 3) (pa_cons (pe_ix (r := rIxT K) ix_tup (pv 5) pe_int (fun _ _ => rfl)) (pa_cons (pe_slice (r := rSlA K) sl_tupA (pv 5) (po_some pe_int) po_none) pa_nil))))))) pss_nil)
      (pss_one (ps_ret (pe_tup (pa_cons (pv 10) (pa_cons (pv 3) (pa_cons (C8.pe_gc (v := .int 0) rfl T.m_BLANK) (pa_cons (pv 5) pa_nil))))))))) pss_nil)
      (Evl.pss_cut (ps_if (PW.pt (pw_or (pt_truth (pv 5) (fun _ => rfl)) (pw_or1 (pt_cmpR op_ne (pv 8) (C8.pe_gc (v := .int 0) rfl T.m_BLANK) (nomark _))))) (pss_one (ps_set (i := 5) sc_Turing_step.nd rfl (by first | exact Or.inl rfl | exact Or.inr rfl) (pe_op (r := rCatA K) op_catA (pe_tup (pa_cons (pv 8) pa_nil)) (pv 5)))) pss_nil)
      (pss_cons (ps_if (pt_truth (pv 3) (fun _ => rfl)) (pss_one (ps_ret (pe_tup (pa_cons (pv 10) (pa_cons (pe_slice (r := rSlA K) sl_tupA (pv 3) (po_some pe_int) po_none) (pa_cons (pe_ix (r := rIxT K) ix_tup (pv 3) pe_int (fun _ _ => rfl)) (pa_cons (pv 5) pa_nil))))))) pss_nil)
      (pss_one (ps_ret (pe_tup (pa_cons (pv 10) (pa_cons (pv 3) (pa_cons (C8.pe_gc (v := .int 0) rfl T.m_BLANK) (pa_cons (pv 5) pa_nil))))))))))))))), ?_⟩
  obtain ⟨G0, ds, P, k, rr, ⟨st, sy, rows, fsd, q, s, l, r, ⟨ss, es, hp, hL, rfl⟩, hg, hl, hrl, rfl, rfl⟩, qq⟩ := h
  have S := S4.start (N := N_Turing_step) k rr
  refine q_tup (js := [2, 3, 4, 5]) (ds := [.int q, .tup (dI l), .int s, .tup (dI r)]) (v_var rfl) rfl rfl S fun σ G H S => ?_
  refine q_setx (d := wholeD rows q s) (EvX.to (v_getD (ns := [q, s]) (v_fld (v_var rfl) T.cls_Turing T.na_Turing__rules_at rfl) (a_consx (v_var rfl) (a_consx (v_var rfl) a_nil)) (by simp)) (hL.whole q s)) S fun σ G H S => ?_
  rcases rule_cases hg q s with h | ⟨w, m, f, h, hw, hm, hf⟩
  · rw [whole_none h] at S
    refine q_when (b_Bx (v_isNx (v_var rfl))) S (fun _ G H S => ?_) (fun e => nomatch e)
    exact g_ret (EvX.to v_non (next_none h).symm) S qq
  · rw [whole_some h] at S
    refine q_when (b_Bx (v_isNx (v_var rfl))) S (fun e => nomatch e) (fun _ G H S => ?_)
    refine q_tup (js := [7, 7, 8, 9, 10]) (ds := [.int q, .int s, .int w, .int m, .int f]) (v_var rfl) rfl rfl S fun σ G H S => ?_
    rw [next_some h] at qq
    rcases hm with rfl | rfl | rfl
    · refine q_when (b_testx (v_eqI (v_var rfl) v_int)) S (fun e => nomatch e) (fun _ G H S => ?_)
      refine q_when (b_testx (v_eqI (v_var rfl) v_int)) S (fun e => nomatch e) (fun _ G H S => ?_)
      refine q_cut (fun σ H => ∃ G, S4 Wd0 K G0 G0 H0 [some (.obj C_Turing [(("states" : Str), Dat.int st), (("symbols" : Str), Dat.int sy), (("rules" : Str), Dat.tup (ss.map rowD)), (("_rules_at" : Str), Dat.dct es)]), some (cfD q l s r), some (.int q), some (.tup (dI (l))), some (.int s), some (.tup (dI (push w r))), some (rowD [q, s, w, (-1), f]), some (.int s), some (.int w), some (.int (-1)), some (.int f)] [] σ G H) (g_if (P := (· = !decide (w = 0 ∧ r = []))) (EvBX.to (b_orx (b_truT (v_var (d := .tup (dI r)) rfl)) fun _ => b_testx (v_neI (v_var rfl) v_int)) (or_push w r)) S (fun e G H S => ?_) fun e G H S => ?_) fun σ H ⟨G, S⟩ => ?_
      · have hn : ¬ (w = 0 ∧ r = []) := fun z => by rw [decide_eq_true z] at e; cases e
        refine g_setx (d := .tup (dI (push w r))) (EvX.to (v_cat (v_tupx (a_consx (v_var rfl) a_nil) (by simp)) (v_var rfl) (by simp; omega)) ?_) S fun σ G H S => ⟨G, S⟩
        unfold push
        rw [if_neg hn]
        rfl
      · have hn : w = 0 ∧ r = [] := Decidable.byContradiction fun z => by rw [decide_eq_false z] at e; cases e
        have hp2 : push w r = r := by
          unfold push
          rw [if_pos hn, hn.2]
        refine ⟨G, ?_⟩
        rw [hp2]
        exact S
      · cases l with
        | nil =>
          refine q_when (b_truT (v_var rfl)) S (fun e => nomatch e) (fun _ G H S => ?_)
          exact g_ret (EvX.to (v_tupx (a_consx (v_var rfl) (a_consx (v_var rfl) (a_consx v_int (a_consx (v_var rfl) a_nil)))) (by simp)) rfl) S qq
        | cons y ys =>
          refine q_when (b_truT (v_var rfl)) S (fun _ G H S => ?_) (fun e => nomatch e)
          refine g_ret (EvX.to (v_tupx (a_consx (v_var rfl) (a_consx (v_slT (v_var rfl) (o_some v_int) o_none) (a_consx (v_ix0 (d := .int y) (v_var rfl) rfl) (a_consx (v_var rfl) a_nil)))) (by simp)) ?_) S qq
          rw [show (1 : Int) = ((1 : Nat) : Int) from rfl, cutD_from]
          rfl
    · refine q_when (b_testx (v_eqI (v_var rfl) v_int)) S (fun _ G H S => ?_) (fun e => nomatch e)
      exact g_ret (EvX.to (v_tupx (a_consx (v_var rfl) (a_consx (v_var rfl) (a_consx (v_var rfl) (a_consx (v_var rfl) a_nil)))) (by simp)) rfl) S qq
    · refine q_when (b_testx (v_eqI (v_var rfl) v_int)) S (fun e => nomatch e) (fun _ G H S => ?_)
      refine q_when (b_testx (v_eqI (v_var rfl) v_int)) S (fun _ G H S => ?_) (fun e => nomatch e)
      refine q_cut (fun σ H => ∃ G, S4 Wd0 K G0 G0 H0 [some (.obj C_Turing [(("states" : Str), Dat.int st), (("symbols" : Str), Dat.int sy), (("rules" : Str), Dat.tup (ss.map rowD)), (("_rules_at" : Str), Dat.dct es)]), some (cfD q l s r), some (.int q), some (.tup (dI (push w l))), some (.int s), some (.tup (dI (r))), some (rowD [q, s, w, 1, f]), some (.int s), some (.int w), some (.int 1), some (.int f)] [] σ G H) (g_if (P := (· = !decide (w = 0 ∧ l = []))) (EvBX.to (b_orx (b_truT (v_var (d := .tup (dI l)) rfl)) fun _ => b_testx (v_neI (v_var rfl) v_int)) (or_push w l)) S (fun e G H S => ?_) fun e G H S => ?_) fun σ H ⟨G, S⟩ => ?_
      · have hn : ¬ (w = 0 ∧ l = []) := fun z => by rw [decide_eq_true z] at e; cases e
        refine g_setx (d := .tup (dI (push w l))) (EvX.to (v_cat (v_tupx (a_consx (v_var rfl) a_nil) (by simp)) (v_var rfl) (by simp; omega)) ?_) S fun σ G H S => ⟨G, S⟩
        unfold push
        rw [if_neg hn]
        rfl
      · have hn : w = 0 ∧ l = [] := Decidable.byContradiction fun z => by rw [decide_eq_false z] at e; cases e
        have hp2 : push w l = l := by
          unfold push
          rw [if_pos hn, hn.2]
        refine ⟨G, ?_⟩
        rw [hp2]
        exact S
      · cases r with
        | nil =>
          refine q_when (b_truT (v_var rfl)) S (fun e => nomatch e) (fun _ G H S => ?_)
          exact g_ret (EvX.to (v_tupx (a_consx (v_var rfl) (a_consx (v_var rfl) (a_consx v_int (a_consx (v_var rfl) a_nil)))) (by simp)) rfl) S qq
        | cons y ys =>
          refine q_when (b_truT (v_var rfl)) S (fun _ G H S => ?_) (fun e => nomatch e)
          refine g_ret (EvX.to (v_tupx (a_consx (v_var rfl) (a_consx (v_var rfl) (a_consx (v_ix0 (d := .int y) (v_var rfl) rfl) (a_consx (v_slT (v_var rfl) (o_some v_int) o_none) a_nil)))) (by simp)) ?_) S qq
          rw [show (1 : Int) = ((1 : Nat) : Int) from rfl, cutD_from]
          rfl
end
abbrev tuF (st sy : Int) (ss : List (List Int)) (es : List (List Key × Dat)) : List (Str × Dat) := [(("states" : Str), Dat.int st), (("symbols" : Str), Dat.int sy), (("rules" : Str), Dat.tup (ss.map rowD)), (("_rules_at" : Str), Dat.dct es)]
section
variable {P : Program} {w : World} {K : PySem.W.Frag} {mg : Str → Option Value} {base : Heap} {C_Turing C_Registers C_InvalidMachine C_BadArgument : Addr}
end
section
variable {P : Program} {w : World} {K : PySem.W.Frag} {mg : Str → Option Value} {base : Heap} {C_Turing C_Registers C_InvalidMachine C_BadArgument : Addr}
def A_strip : Sig := fun ds P => ∃ ns : List Int, ns.length ≤ 20000 ∧ ds = [.tup (dI ns)] ∧ P = (· = .tup (dI (strip ns)))
def A_lstripL : Sig := fun ds P => ∃ ns : List Int, ns.length ≤ 20000 ∧ ds = [.lst (dI ns)] ∧ P = (· = .tup (dI (strip ns)))
def tst (ns : List Int) : Nat → Bool
  | 0 => false
  | k + 1 => decide (ns[k]? = some 0)
theorem strip_go {ns : List Int} {m i : Nat} (hm : m ≤ ns.length) (hs : strip (ns.take m) = strip ns) (hd : strip (ns.take m) = ns.take m ∨ m + i ≤ ns.length) (hi : i < ns.length) :
    ∃ b, (b = (decide (0 < (m : Int)) && tst ns m)) ∧ (b = true → ∃ k, m = k + 1 ∧ k ≤ ns.length ∧ strip (ns.take k) = strip ns ∧ (strip (ns.take k) = ns.take k ∨ k + (i + 1) ≤ ns.length)) ∧ (b = false → strip (ns.take m) = ns.take m) := by
  cases m with
  | zero => exact ⟨false, rfl, (fun e => nomatch e), fun _ => rfl⟩
  | succ k =>
    have hx : ns[k]? = some ns[k] := List.getElem?_eq_getElem (by omega)
    refine ⟨decide (ns[k]? = some 0), ?_, fun e => ?_, fun e => ?_⟩
    · have e1 : decide (0 < ((k + 1 : Nat) : Int)) = true := decide_eq_true (by omega)
      show _ = (decide (0 < ((k + 1 : Nat) : Int)) && decide (ns[k]? = some 0))
      rw [e1]
      rfl
    · have h0 := of_decide_eq_true e
      refine ⟨k, rfl, by omega, ?_, ?_⟩
      · rw [← hs]
        exact (strip_zero h0).symm
      · rcases hd with hd | hd
        · have e2 := strip_len (ns.take k)
          rw [strip_zero h0] at hd
          have e3 := congrArg List.length hd
          rw [List.length_take] at e3 e2
          omega
        · right
          omega
    · have h0 := of_decide_eq_false e
      refine strip_done hx fun z => h0 ?_
      rw [hx, z]
section
variable {P : Program} {w : World} {K : PySem.W.Frag} {mg : Str → Option Value} {base : Heap} {C_Turing C_Registers C_InvalidMachine C_BadArgument : Addr}
theorem ok_stripT (D : Df K mg "_law_strip" s_law_strip) (T : Txt K w mg C_Turing C_Registers C_InvalidMachine C_BadArgument) : C8.Cal P w K mg base 1 "_law_strip" (spOf Wd0 K A_strip) [] := by
  refine cal_of D (fun _ _ _ _ _ _ us hl => match us, hl with | [_], _ => rfl) sc_law_strip (spOf_len (n := 1) fun _ _ ⟨_, _, e, _⟩ => by rw [e]; rfl) fun f cdv A outer s H0 vs Q E hr h => ⟨_, (pss_cons (ps_set (i := 1) sc_law_strip.nd rfl (by first | exact Or.inl rfl | exact Or.inr rfl) (pe_callB (r := Ly.rLen K) call_len_seq (by rfl) T.n_len PySem.boot_len (pa_cons (pv 0) pa_nil)))
      (pss_cons (ps_for PassesOwn.never rfl (pi_range1 rfl T.n_range (pa_cons (pe_callB (r := Ly.rLen K) call_len_seq (by rfl) T.n_len PySem.boot_len (pa_cons (pv 0) pa_nil)) pa_nil)) (pg_name (i := 2) sc_law_strip.nd rfl (by first | exact Or.inl rfl | exact Or.inr rfl))
        (pss_one (ps_if (PW.pt (pw_and (pt_cmpR op_gt (pv 1) pe_int (nomark _)) (pw_and1 (pt_cmpR op_eq (pe_ix (r := rIxT K) ix_tup (pv 0) (pe_op op_sub (pv 1) pe_int) (fun _ _ => rfl)) pe_int (nomark _))))) (pss_one (ps_set (i := 1) sc_law_strip.nd rfl (by first | exact Or.inl rfl | exact Or.inr rfl) (pe_op op_sub (pv 1) pe_int))) pss_nil)))
      (pss_one (ps_ret (pe_tupleOf rfl T.n_tuple (pe_slice (r := rSlA K) sl_tupA (pv 0) po_none (po_some (pv 1)))))))), ?_⟩
  obtain ⟨G0, ds, P, k, r, ⟨ns, hl, rfl, rfl⟩, q⟩ := h
  have S := S4.start (N := N_law_strip) k r
  refine q_setx (d := .int (ns.length : Int)) (EvX.to (v_lenT (v_var rfl)) (by rw [List.length_map])) S fun σ G H S => ?_
  refine q_for1 (n := (ns.length : Int)) (EvA.imp (a_consx (v_lenT (v_var rfl)) a_nil) fun ds e => by rw [e, List.length_map]) (by omega) S (fun i Γ O => O = [] ∧ ∃ z, ∃ m : Nat, Γ = [some (.tup (dI ns)), some (.int (m : Int)), z] ∧ m ≤ ns.length ∧ strip (ns.take m) = strip ns ∧ (strip (ns.take m) = ns.take m ∨ m + i ≤ ns.length)) ⟨rfl, none, ns.length, rfl, Nat.le_refl _, by rw [List.take_length], .inr (Nat.le_refl _)⟩ ?_ ?_ (by omega)
  · rintro i Γ O σ G H hi ⟨rfl, z, m, rfl, hm, hs, hd⟩ S
    have hi2 : i < ns.length := by omega
    obtain ⟨b, hb, h1, h2⟩ := strip_go hm hs hd hi2
    refine g_if (P := (· = b)) ?_ S (fun e G H S => ?_) (fun e G H S => ?_)
    · rw [hb]
      refine b_andx (b_testx (v_gt (v_var rfl) v_int)) fun e => ?_
      cases m with
      | zero => exact absurd (of_decide_eq_true e) (by omega)
      | succ k =>
        have hx : ns[k]? = some ns[k] := List.getElem?_eq_getElem (by omega)
        refine b_testx (EvX.to (v_eqI (v_ixT (j := k) (v_var rfl) (v_sub (v_var rfl) v_int) (by omega) (by rw [List.getElem?_map, hx]; rfl)) v_int) ?_)
        show Dat.bl (decide (ns[k] = 0)) = Dat.bl (decide (ns[k]? = some 0))
        rw [hx]
        simp
    · obtain ⟨k, rfl, q1, q2, q3⟩ := h1 e.symm
      refine g_setx (d := .int (k : Int)) (EvX.to (v_sub (v_var rfl) v_int) (congrArg Dat.int (by omega))) S fun σ G H S => ⟨_, _, _, ⟨rfl, some (.int (i : Int)), k, rfl, q1, q2, q3⟩, S⟩
    · exact ⟨_, _, _, ⟨rfl, some (.int (i : Int)), m, rfl, hm, hs, .inl (h2 e.symm)⟩, S⟩
  · rintro Γ O σ G H ⟨rfl, z, m, rfl, hm, hs, hd⟩ S
    have hf : strip (ns.take m) = ns.take m := by
      rcases hd with hd | hd
      · exact hd
      · have : m = 0 := by omega
        subst this
        rfl
    refine g_ret (P := (· = .tup (dI (strip ns)))) (EvX.to (v_tupleTx (v_slT (v_var rfl) o_none (o_some (v_var rfl)))) ?_) S q
    rw [cutD_to, ← hs, hf]
    exact congrArg Dat.tup (List.map_take ..).symm
end
end
/-! ## the law's own table and step -/
theorem head0 (r : List Int) : (dI r ++ [Dat.int 0])[0]? = some (.int (r.headD 0)) := by
  cases r <;> rfl
theorem cut1 (r : List Int) : cutD (dI r) (some 1) none = dI r.tail := by
  rw [show (1 : Int) = ((1 : Nat) : Int) from rfl, cutD_from]
  cases r <;> rfl
theorem look_none {rows : List (List Int)} {es : List (List Key × Dat)} {q s : Int} (h : Look rows es) (e : ruleOf rows q s = none) : valD es (iK [q, s]) = none := by
  unfold ruleOf at e
  rw [List.find?_eq_none] at e
  exact h.out [q, s] fun r hr z => e r hr (decide_eq_true z)
theorem look_some {rows : List (List Int)} {es : List (List Key × Dat)} {q s w m f : Int} (h : Look rows es) (e : ruleOf rows q s = some [q, s, w, m, f]) : valD es (iK [q, s]) = some (.tup [.int w, .int m, .int f]) := h.inn _ (List.mem_of_find?_eq_some e)
def rowsD : Dat → List Dat
  | .tup ds => ds
  | _ => []
structure Mok (st sy : Int) (rows : List (List Int)) : Prop where
  s1 : 1 ≤ st ∧ st ≤ 3
  s2 : 2 ≤ sy ∧ sy ≤ 3
  good : ∀ r ∈ rows, GoodR st sy r
  nd : (rows.map (·.take 2)).Nodup
  len : rows.length < 64
  so : rows.Pairwise fun a b => rkS 20000 a ≤ rkS 20000 b
def A_table : Sig := fun ds P => ∃ (st sy : Int) (rows : List (List Int)), Mok st sy rows ∧ ds = [.lst (rows.map rowD)] ∧ P = fun d => ∃ es, d = .dct es ∧ Look rows es
def A_lstep : Sig := fun ds P => ∃ (st sy : Int) (rows : List (List Int)) (es : List (List Key × Dat)) (q s : Int) (l r : List Int), Look rows es ∧ (∀ x ∈ rows, GoodR st sy x) ∧ Cf st sy 1000 q l s r ∧ ds = [.dct es, cfD q l s r] ∧ P = (· = nextD rows q l s r)
section
variable {P : Program} {w : World} {K : PySem.W.Frag} {mg : Str → Option Value} {base : Heap} {C_Turing C_Registers C_InvalidMachine C_BadArgument : Addr}
theorem ok_table (D : Df K mg "_law_table" s_law_table) (T : Txt K w mg C_Turing C_Registers C_InvalidMachine C_BadArgument) : C8.Cal P w K mg base 1 "_law_table" (spOf Wd0 K A_table) [] := by
  refine cal_of D (fun _ _ _ _ _ _ us hl => match us, hl with | [_], _ => rfl) sc_law_table (spOf_len (n := 1) fun _ _ ⟨_, _, _, _, e, _⟩ => by rw [e]; rfl) fun f cdv A outer s H0 vs Q E hr h => ⟨_, (pss_cons (ps_set (i := 1) sc_law_table.nd rfl (by first | exact Or.inl rfl | exact Or.inr rfl) pe_dnewT)
      (pss_cons (ps_for PassesOwn.never rfl (pi_list (pv 0)) (pg_tup rfl (pgs_cons (pg_name (i := 2) sc_law_table.nd rfl (by first | exact Or.inl rfl | exact Or.inr rfl)) (pgs_cons (pg_name (i := 3) sc_law_table.nd rfl (by first | exact Or.inl rfl | exact Or.inr rfl)) (pgs_cons (pg_name (i := 4) sc_law_table.nd rfl (by first | exact Or.inl rfl | exact Or.inr rfl)) (pgs_cons (pg_name (i := 5) sc_law_table.nd rfl (by first | exact Or.inl rfl | exact Or.inr rfl)) (pgs_cons (pg_name (i := 6) sc_law_table.nd rfl (by first | exact Or.inl rfl | exact Or.inr rfl)) pgs_nil))))))
        (pss_one (ps_dput (units1 hr) (pv 1) (pe_tup (pa_cons (pv 2) (pa_cons (pv 3) pa_nil))) (pe_tup (pa_cons (pv 4) (pa_cons (pv 5) (pa_cons (pv 6) pa_nil)))) rfl)))
      (pss_one (ps_ret (pv 1))))), ?_⟩
  obtain ⟨G0, ds, P, k, r, ⟨st, sy, rows, hm, rfl, rfl⟩, q⟩ := h
  have S := S4.start (N := N_law_table) k r
  refine q_newD S fun x σ H h0 S => ?_
  refine q_forLD (us := rows.map rowD) (rows := rowsD) (js := [2, 3, 4, 5, 6]) (es := []) (v_var rfl) (fun d hd => ?_) .nil S (fun n Γ es => (∃ z1 z2 z3 z4 z5, Γ = [some (.lst (rows.map rowD)), some (.adr x), z1, z2, z3, z4, z5]) ∧ Look (rows.take n) es) ⟨⟨none, none, none, none, none, rfl⟩, Look.nil⟩ ?_ ?_
  · obtain ⟨r, hr, rfl⟩ := List.mem_map.mp hd
    obtain ⟨a, b, c, d, e, rfl, _⟩ := hm.good r hr
    exact ⟨rfl, rfl⟩
  · rintro G1 n d vs' es' Γ σ G H hd ⟨⟨z1, z2, z3, z4, z5, rfl⟩, hL⟩ hf S
    obtain ⟨r, hr, rfl⟩ := lt_get hd
    have hmem := List.mem_of_getElem? hr
    obtain ⟨a, b, c, d, e, er, _⟩ := hm.good r hmem
    subst er
    have hlen : es'.length ≤ 64 := by
      rw [hL.len, List.length_take]
      have := hm.len
      omega
    have htk : rows.take (n + 1) = rows.take n ++ [[a, b, c, d, e]] := by
      rw [List.take_succ, hr]
      rfl
    refine g_dput (ns := [a, b]) (P := (· = valR [a, b, c, d, e])) (v_tupx (a_consx (v_var rfl) (a_consx (v_var rfl) (a_consx (v_var rfl) a_nil))) (by simp)) (v_var rfl) (a_consx (v_var rfl) (a_consx (v_var rfl) a_nil)) (by simp) (by rw [hf.length]; omega) S fun z dd G2 H2 p rz ex S => ?_
    subst p
    refine ⟨_, _, _, G2, ⟨⟨_, _, _, _, _, rfl⟩, ?_⟩, (hf.mono ex).put rz, S⟩
    rw [htk]
    refine hL.add (r := [a, b, c, d, e]) fun y hy z => ?_
    have nd := hm.nd
    have hrow : rows = rows.take n ++ [a, b, c, d, e] :: rows.drop (n + 1) := by
      obtain ⟨hlt, he⟩ := List.getElem?_eq_some_iff.mp hr
      rw [← he, ← List.drop_eq_getElem_cons hlt, List.take_append_drop]
    rw [hrow, List.map_append, List.nodup_append] at nd
    exact nd.2.2 (y.take 2) (List.mem_map.mpr ⟨y, hy, rfl⟩) ([a, b, c, d, e].take 2) (by simp) z
  · rintro vs' es' Γ σ G H ⟨⟨z1, z2, z3, z4, z5, rfl⟩, hL⟩ hf S
    rw [List.length_map, List.take_length] at hL
    exact g_retD (i := 1) rfl h0 hf S fun v d G2 H2 s e r => q v d G2 H2 s ⟨es', e, hL⟩ r
theorem ok_lstep (D : Df K mg "_law_turing_step" s_law_turing_step) (T : Txt K w mg C_Turing C_Registers C_InvalidMachine C_BadArgument) (c_law_stripT : C8.Cal P w K mg base 1 "_law_strip" (spOf Wd0 K A_strip) []) : C8.Cal P w K mg base 2 "_law_turing_step" (spOf Wd0 K A_lstep) [] := by
  refine cal_of D (fun _ _ _ _ _ _ us hl => match us, hl with | [_, _], _ => rfl) sc_law_turing_step (spOf_len (n := 2) fun _ _ ⟨_, _, _, _, _, _, _, _, _, _, _, e, _⟩ => by rw [e]; rfl) fun f cdv A outer s H0 vs Q E hr h => ⟨_, (pss_cons (ps_asg (pv 1) (pg_tup rfl (pgs_cons (pg_name (i := 2) sc_law_turing_step.nd rfl (by first | exact Or.inl rfl | exact Or.inr rfl)) (pgs_cons (pg_name (i := 3) sc_law_turing_step.nd rfl (by first | exact Or.inl rfl | exact Or.inr rfl)) (pgs_cons (pg_name (i := 4) sc_law_turing_step.nd rfl (by first | exact Or.inl rfl | exact Or.inr rfl)) (pgs_cons (pg_name (i := 5) sc_law_turing_step.nd rfl (by first | exact Or.inl rfl | exact Or.inr rfl)) pgs_nil))))))
      (pss_cons (ps_if (pt_cmp (pc_dnotin (units1 hr) (pe_tup (pa_cons (pv 2) (pa_cons (pv 4) pa_nil))) (pv 0))) (pss_one (ps_ret pe_non)) pss_nil)
      (pss_cons (ps_asg (pe_dget (units1 hr) (pv 0) (pe_tup (pa_cons (pv 2) (pa_cons (pv 4) pa_nil))) (fun _ _ => rfl)) (pg_tup rfl (pgs_cons (pg_name (i := 6) sc_law_turing_step.nd rfl (by first | exact Or.inl rfl | exact Or.inr rfl)) (pgs_cons (pg_name (i := 7) sc_law_turing_step.nd rfl (by first | exact Or.inl rfl | exact Or.inr rfl)) (pgs_cons (pg_name (i := 8) sc_law_turing_step.nd rfl (by first | exact Or.inl rfl | exact Or.inr rfl)) pgs_nil)))))
      (pss_cons (ps_if (pt_cmpR op_eq (pv 7) pe_int (nomark _)) (pss_one (ps_ret (pe_tup (pa_cons (pv 8) (pa_cons (pv 3) (pa_cons (pv 6) (pa_cons (pv 5) pa_nil))))))) pss_nil)
      (pss_cons (ps_if (pt_cmpR op_eq (pv 7) pe_int (nomark _)) (pss_one (ps_ret (pe_tup (pa_cons (pv 8) (pa_cons (C8.pe_c c_law_stripT hr (by decide) rfl (pa_cons (pe_op (r := rCatA K) op_catA (pe_tup (pa_cons (pv 6) pa_nil)) (pv 3)) pa_nil)) (pa_cons (pe_ix (r := rIxT K) ix_tup (pe_op (r := rCatA K) op_catA (pv 5) (pe_tup (pa_cons pe_int pa_nil))) pe_int (fun _ _ => rfl)) (pa_cons (pe_slice (r := rSlA K) sl_tupA (pv 5) (po_some pe_int) po_none) pa_nil))))))) pss_nil)
      (pss_one (ps_ret (pe_tup (pa_cons (pv 8) (pa_cons (pe_slice (r := rSlA K) sl_tupA (pv 3) (po_some pe_int) po_none) (pa_cons (pe_ix (r := rIxT K) ix_tup (pe_op (r := rCatA K) op_catA (pv 3) (pe_tup (pa_cons pe_int pa_nil))) pe_int (fun _ _ => rfl)) (pa_cons (C8.pe_c c_law_stripT hr (by decide) rfl (pa_cons (pe_op (r := rCatA K) op_catA (pe_tup (pa_cons (pv 6) pa_nil)) (pv 5)) pa_nil)) pa_nil)))))))))))), ?_⟩
  obtain ⟨G0, ds, P, k, rr, ⟨st, sy, rows, es, q, s, l, r, hL, hg, hc, rfl, rfl⟩, qq⟩ := h
  have S := S4.start (N := N_law_turing_step) k rr
  have hl := hc.ln
  have hrl := hc.rn
  refine q_tup (js := [2, 3, 4, 5]) (ds := [.int q, .tup (dI l), .int s, .tup (dI r)]) (v_var rfl) rfl rfl S fun σ G H S => ?_
  rcases rule_cases hg q s with h | ⟨w, m, f, h, hw, hm, hf⟩
  · refine q_when (P := (· = true)) (EvBX.to (b_Bx (v_notInKT (ns := [q, s]) (a_consx (v_var rfl) (a_consx (v_var rfl) a_nil)) (v_var rfl) (by simp))) (by rw [look_none hL h]; rfl)) S (fun _ G H S => ?_) (fun e => nomatch e)
    exact g_ret (EvX.to v_non (next_none h).symm) S qq
  · refine q_when (P := (· = false)) (EvBX.to (b_Bx (v_notInKT (ns := [q, s]) (a_consx (v_var rfl) (a_consx (v_var rfl) a_nil)) (v_var rfl) (by simp))) (by rw [look_some hL h]; rfl)) S (fun e => nomatch e) (fun _ G H S => ?_)
    refine q_tup (js := [6, 7, 8]) (ds := [.int w, .int m, .int f]) (v_ixKT (ns := [q, s]) (v_var rfl) (a_consx (v_var rfl) (a_consx (v_var rfl) a_nil)) (by simp) (look_some hL h)) rfl rfl S fun σ G H S => ?_
    rw [next_some h] at qq
    rcases hm with rfl | rfl | rfl
    · refine q_when (b_testx (v_eqI (v_var rfl) v_int)) S (fun e => nomatch e) (fun _ G H S => ?_)
      refine q_when (b_testx (v_eqI (v_var rfl) v_int)) S (fun e => nomatch e) (fun _ G H S => ?_)
      refine g_ret (EvX.to (v_tupx (a_consx (v_var rfl) (a_consx (v_slT (v_var rfl) (o_some v_int) o_none) (a_consx (v_ix0 (v_cat (v_var rfl) (v_tupx (a_consx v_int a_nil) (by simp)) (by simp; omega)) (head0 l)) (a_consx (v_call0x (P := (· = .tup (dI (strip (w :: r))))) (a_consx (v_cat (v_tupx (a_consx (v_var rfl) a_nil) (by simp)) (v_var rfl) (by simp; omega)) a_nil) ⟨w :: r, by simp; omega, rfl, rfl⟩) a_nil)))) (by simp)) ?_) S qq
      rw [cut1, strip_cons hc.re]
      rfl
    · refine q_when (b_testx (v_eqI (v_var rfl) v_int)) S (fun _ G H S => ?_) (fun e => nomatch e)
      exact g_ret (EvX.to (v_tupx (a_consx (v_var rfl) (a_consx (v_var rfl) (a_consx (v_var rfl) (a_consx (v_var rfl) a_nil)))) (by simp)) rfl) S qq
    · refine q_when (b_testx (v_eqI (v_var rfl) v_int)) S (fun e => nomatch e) (fun _ G H S => ?_)
      refine q_when (b_testx (v_eqI (v_var rfl) v_int)) S (fun _ G H S => ?_) (fun e => nomatch e)
      refine g_ret (EvX.to (v_tupx (a_consx (v_var rfl) (a_consx (v_call0x (P := (· = .tup (dI (strip (w :: l))))) (a_consx (v_cat (v_tupx (a_consx (v_var rfl) a_nil) (by simp)) (v_var rfl) (by simp; omega)) a_nil) ⟨w :: l, by simp; omega, rfl, rfl⟩) (a_consx (v_ix0 (v_cat (v_var rfl) (v_tupx (a_consx v_int a_nil) (by simp)) (by simp; omega)) (head0 r)) (a_consx (v_slT (v_var rfl) (o_some v_int) o_none) a_nil)))) (by simp)) ?_) S qq
      rw [cut1, strip_cons hc.le]
      rfl
end
/-! ## drawn machines and tapes -/
theorem rk_lex {a b i j : Int} {t u : List Int} (hl : t.length = u.length) (h1 : ∀ m ∈ b :: t, -20000 ≤ m ∧ m ≤ 20000) (h2 : ∀ m ∈ j :: u, -20000 ≤ m ∧ m ≤ 20000) (h : a < i ∨ a = i ∧ b < j) : rkS 20000 (a :: b :: t) ≤ rkS 20000 (i :: j :: u) := by
  have hl1 : (shf 20000 (b :: t)).length = (shf 20000 (j :: u)).length := by rw [shf, shf, List.length_map, List.length_map, List.length_cons, List.length_cons, hl]
  have hl2 : (shf 20000 t).length = (shf 20000 u).length := by rw [shf, shf, List.length_map, List.length_map, hl]
  rcases h with h | ⟨rfl, h⟩
  · exact Int.le_of_lt (code_lt (d := a + 20000) (e := i + 20000) hl1 (shf_bd h1) (shf_bd h2) (by omega))
  · have c := code_lt (d := b + 20000) (e := j + 20000) hl2 (shf_bd fun m hm => h1 m (List.mem_cons_of_mem _ hm)) (shf_bd fun m hm => h2 m (List.mem_cons_of_mem _ hm)) (by omega)
    exact Int.le_of_lt ((code_same (d := a + 20000) hl1).mpr c)
/-- rules for the places before (i, j) -/
structure Kd (st sy : Int) (i j : Nat) (rows : List (List Int)) : Prop where
  good : ∀ r ∈ rows, GoodR st sy r
  nd : (rows.map (·.take 2)).Nodup
  key : ∀ r ∈ rows, ∃ (a b : Int) (t : List Int), r = a :: b :: t ∧ (a < i ∨ a = i ∧ b < j)
  len : rows.length ≤ 3 * i + j
  so : rows.Pairwise fun a b => rkS 20000 a ≤ rkS 20000 b
  s1 : st ≤ 20000 ∧ sy ≤ 20000
theorem Kd.turn {st sy : Int} {i j : Nat} {rows : List (List Int)} (h : Kd st sy i j rows) (hj : j ≤ 3) : Kd st sy (i + 1) 0 rows := ⟨h.good, h.nd, fun r hr => by
  obtain ⟨a, b, t, e, k⟩ := h.key r hr
  exact ⟨a, b, t, e, .inl (by omega)⟩, by have := h.len; omega, h.so, h.s1⟩
theorem Kd.skip {st sy : Int} {i j : Nat} {rows : List (List Int)} (h : Kd st sy i j rows) : Kd st sy i (j + 1) rows := ⟨h.good, h.nd, fun r hr => by
  obtain ⟨a, b, t, e, k⟩ := h.key r hr
  exact ⟨a, b, t, e, by omega⟩, by have := h.len; omega, h.so, h.s1⟩
theorem Kd.add {st sy w m f : Int} {i j : Nat} {rows : List (List Int)} (h : Kd st sy i j rows) (hg : GoodR st sy [(i : Int), (j : Int), w, m, f]) : Kd st sy i (j + 1) (rows ++ [[(i : Int), (j : Int), w, m, f]]) := by
  refine ⟨fun r hr => ?_, ?_, fun r hr => ?_, ?_, ?_, h.s1⟩
  · rcases List.mem_append.mp hr with hr | hr
    · exact h.good r hr
    · rw [List.mem_singleton.mp hr]
      exact hg
  · rw [List.map_append, List.nodup_append]
    refine ⟨h.nd, by simp, fun x hx y hy e => ?_⟩
    obtain ⟨r, hr, rfl⟩ := List.mem_map.mp hx
    obtain ⟨a, b, t, e2, k⟩ := h.key r hr
    subst e2
    simp at hy
    subst hy
    simp at e
    omega
  · rcases List.mem_append.mp hr with hr | hr
    · obtain ⟨a, b, t, e, k⟩ := h.key r hr
      exact ⟨a, b, t, e, by omega⟩
    · rw [List.mem_singleton.mp hr]
      exact ⟨i, j, _, rfl, .inr ⟨rfl, by omega⟩⟩
  · have := h.len
    rw [List.length_append]
    simp
    omega
  · rw [List.pairwise_append]
    refine ⟨h.so, by simp, fun x hx y hy => ?_⟩
    rw [List.mem_singleton.mp hy]
    obtain ⟨a, b, t, e, k⟩ := h.key x hx
    have g := h.good x hx
    obtain ⟨q0, s0, w0, m0, f0, e0, g1, g2, g3, g4, g5⟩ := g
    obtain ⟨q1, s1, w1, m1, f1, e1, k1, k2, k3, k4, k5⟩ := hg
    have hs := h.s1
    cases e1
    rw [e0]
    rw [e0] at e
    injection e with e2 e3
    injection e3 with e4 e5
    subst e2 e4
    exact rk_lex (t := [w0, m0, f0]) rfl (fun z hz => by simp at hz; omega) (fun z hz => by simp at hz; omega) k
def IsCf (st sy : Int) (d : Dat) : Prop := ∃ (q s : Int) (l r : List Int), d = cfD q l s r ∧ Cf st sy 4 q l s r
abbrev maD (st sy : Int) (rows : List (List Int)) : Dat := .tup [.int st, .int sy, .tup (rows.map rowD)]
section
variable {P : Program} {w : World} {K : PySem.W.Frag} {mg : Str → Option Value} {base : Heap} {C_Turing C_Registers C_InvalidMachine C_BadArgument : Addr}
end
theorem pl_cf {q s : Int} {l r : List Int} (hl : l.length ≤ 1000) (hr : r.length ≤ 1000) : Pl 3 (cfD q l s r) := by
  rw [Pl, Pls, Pls, Pls, Pls, Pls]
  exact ⟨by simp, by rw [Pl]; trivial, Pl.ints (n := 1) (by omega), by rw [Pl]; trivial, Pl.ints (n := 1) (by omega), trivial⟩
theorem Cf.weak {st sy : Int} {n m : Nat} {q s : Int} {l r : List Int} (h : Cf st sy n q l s r) (hm : n ≤ m) : Cf st sy m q l s r := ⟨h.q0, h.s0, h.l0, h.r0, h.le, h.re, Nat.le_trans h.ln hm, Nat.le_trans h.rn hm⟩
section
variable {P : Program} {w : World} {K : PySem.W.Frag} {mg : Str → Option Value} {base : Heap} {C_Turing C_Registers C_InvalidMachine C_BadArgument : Addr}
theorem ok_rule (M : ∃ f fd, Meth K C_Turing "rule" f ∧ Fun K "rule" "Turing.rule" s_Turing_rule f fd) (T : Txt K w mg C_Turing C_Registers C_InvalidMachine C_BadArgument) : C8.Met P w K mg base 1 C_Turing "rule" (spOf Wd0 K (A_rule C_Turing)) [] := by
  refine met_of T.cls_Turing M (fun _ _ _ _ _ _ us hl => match us, hl with | [_, _, _], _ => rfl) sc_Turing_rule (spOf_len (n := 3) fun _ _ ⟨_, _, _, _, _, _, _, e, _⟩ => by rw [e]; rfl) fun f cdv A outer s H0 vs Q E hr h => ⟨_, (pss_cons (ps_set (i := 3) sc_Turing_rule.nd rfl (by first | exact Or.inl rfl | exact Or.inr rfl) (pe_dget1 (units1 hr) (pe_fld (pv 0) rfl) (pe_tup (pa_cons (pv 1) (pa_cons (pv 2) pa_nil))) ⟨rfl, rfl, rfl, rfl⟩))
      (pss_cons (ps_if (pt_cmp (pc_isN (pv 3))) (pss_one (ps_ret pe_non)) pss_nil)
      (pss_one (ps_ret (pe_slice (r := rSlA K) sl_tupA (pv 3) (po_some pe_int) po_none))))), ?_⟩
  obtain ⟨G0, ds, P, k, r, ⟨st, sy, rows, fsd, q, s, ⟨ss, es, hp, hpw, hL, hnl, rfl⟩, rfl, rfl⟩, qq⟩ := h
  have S := S4.start (N := N_Turing_rule) k r
  refine q_setx (d := wholeD rows q s) (EvX.to (v_getD (ns := [q, s]) (v_fld (v_var rfl) T.cls_Turing T.na_Turing__rules_at rfl) (a_consx (v_var rfl) (a_consx (v_var rfl) a_nil)) (by simp)) (hL.whole q s)) S fun σ G H S => ?_
  unfold wholeD at S
  unfold deedD at qq
  cases e : ruleOf rows q s with
  | none =>
    rw [e] at S qq
    refine q_when (b_Bx (v_isNx (v_var rfl))) S (fun _ G H S => ?_) (fun e => nomatch e)
    exact g_ret v_non S qq
  | some x =>
    rw [e] at S qq
    refine q_when (b_Bx (v_isNx (v_var rfl))) S (fun e => nomatch e) (fun _ G H S => ?_)
    refine g_ret (EvX.to (v_slT (v_var rfl) (o_some v_int) o_none) ?_) S qq
    rw [show (2 : Int) = ((2 : Nat) : Int) from rfl, cutD_from]
    exact congrArg Dat.tup (List.map_drop ..).symm
end
end K89.KT

set_option maxHeartbeats 4000000
namespace K89.KR
open PySem L2 Ly
/-! ## what an instruction names -/
def okI (c p : Int) (op : Str) (ns : List Int) : Bool := decide (op = "end") || match ns with
  | [] => false
  | r :: ts => (decide (0 ≤ r) && decide (r < c)) && ts.all fun t => decide (0 ≤ t) && decide (t < p)
abbrev ins (x : Str × List Int) : Dat := .tup (.str x.1 :: dI x.2)
def Good (x : Str × List Int) : Prop := (x.1 = "end" ∨ 1 ≤ x.2.length) ∧ x.2.length ≤ 3 ∧ PyData.strOk x.1 = true
def A_names : Sig := fun ds P => ∃ (x : Str × List Int) (c p : Int), Good x ∧ ds = [ins x, .int c, .int p] ∧ P = (· = .bl (okI c p x.1 x.2))
def okR (c : Int) (xs : List (Str × List Int)) : Bool := (decide (1 ≤ c) && decide (c ≤ 2000)) && ((decide (1 ≤ (xs.length : Int)) && decide ((xs.length : Int) ≤ 100000)) && xs.all fun x => okI c xs.length x.1 x.2)
abbrev insD (xs : List (Str × List Int)) : List Dat := xs.map ins
abbrev regF (c : Int) (xs : List (Str × List Int)) : List (Str × Dat) := [("count", .int c), ("instructions", .tup (insD xs))]
def A_Registers : InitSig := fun ds r => ∃ (c : Int) (xs : List (Str × List Int)), (∀ x ∈ xs, Good x) ∧ ds = [.int c, .lst (insD xs)] ∧ r = if okR c xs = true then some (regF c xs) else none
def A_eq (C : Addr) : Sig := fun ds P => ∃ (c c2 : Int) (xs ys : List (Str × List Int)), (∀ x ∈ xs, Good x) ∧ (∀ x ∈ ys, Good x) ∧ xs.length ≤ 1000 ∧ ys.length ≤ 1000 ∧ ds = [.obj C (regF c xs), .obj C (regF c2 ys)] ∧ P = (· = .bl (decide (c = c2) && decide (xs = ys)))
/-! ## steps -/
def bump (vs : List Int) (n : Nat) (d : Int) : List Int := vs.set n ((vs[n]?).getD 0 + d)
def insStep (x : Str × List Int) (vs : List Int) : Option (Nat × List Int) := if x.1 = "end" then none else if x.1 = "inc" then (match x.2 with
  | [r, t] => some (t.toNat, bump vs r.toNat 1)
  | _ => none) else (match x.2 with
  | [r, t, u] => if vs[r.toNat]? = some 0 then some (u.toNat, vs) else some (t.toNat, bump vs r.toNat (-1))
  | _ => none)
theorem insStep_dec0 {n t u : Nat} {vs : List Int} (h : vs[n]? = some 0) : insStep (("dec" : Str), [(n : Int), (t : Int), (u : Int)]) vs = some (u, vs) := by
  unfold insStep
  rw [if_neg (show ¬ ("dec" : Str) = "end" by decide), if_neg (show ¬ ("dec" : Str) = "inc" by decide)]
  show (if vs[n]? = some 0 then some (u, vs) else some (t, bump vs n (-1))) = _
  rw [if_pos h]
theorem insStep_dec1 {n t u : Nat} {vs : List Int} (h : ¬ vs[n]? = some 0) : insStep (("dec" : Str), [(n : Int), (t : Int), (u : Int)]) vs = some (t, bump vs n (-1)) := by
  unfold insStep
  rw [if_neg (show ¬ ("dec" : Str) = "end" by decide), if_neg (show ¬ ("dec" : Str) = "inc" by decide)]
  show (if vs[n]? = some 0 then some (u, vs) else some (t, bump vs n (-1))) = _
  rw [if_neg h]
def regStep (xs : List (Str × List Int)) (pl : Nat) (vs : List Int) : Option (Nat × List Int) := match xs[pl]? with
  | some x => insStep x vs
  | none => none
def cfD : Option (Nat × List Int) → Dat
  | none => .non
  | some (p, vs) => .tup [.int (p : Int), .tup (dI vs)]
/-- an instruction as it should be -/
def Shp (c m : Nat) (x : Str × List Int) : Prop := x = (("end" : Str), ([] : List Int)) ∨ (∃ n t : Nat, x = (("inc" : Str), [(n : Int), (t : Int)]) ∧ n < c ∧ t < m) ∨ (∃ n t u : Nat, x = (("dec" : Str), [(n : Int), (t : Int), (u : Int)]) ∧ n < c ∧ t < m ∧ u < m)
structure Cf (c pl : Nat) (xs : List (Str × List Int)) (vs : List Int) : Prop where
  ins : ∀ x ∈ xs, Shp c xs.length x
  place : pl < xs.length
  len : vs.length = c
  small : c ≤ 100
theorem Cf.at' {c pl : Nat} {xs : List (Str × List Int)} {vs : List Int} (h : Cf c pl xs vs) : ∃ x, xs[pl]? = some x ∧ Shp c xs.length x := ⟨xs[pl]'h.place, List.getElem?_eq_getElem h.place, h.ins _ (List.getElem_mem _)⟩
theorem bump_len (vs : List Int) (n : Nat) (d : Int) : (bump vs n d).length = vs.length := List.length_set ..
theorem Cf.step {c pl q : Nat} {xs : List (Str × List Int)} {vs us : List Int} (h : Cf c pl xs vs) (e : regStep xs pl vs = some (q, us)) : Cf c q xs us := by
  obtain ⟨x, hx, hs⟩ := h.at'
  have e : insStep x vs = some (q, us) := by
    unfold regStep at e
    rw [hx] at e
    exact e
  rcases hs with rfl | ⟨n, t, rfl, hn, ht⟩ | ⟨n, t, u, rfl, hn, ht, hu⟩
  · simp [insStep] at e
  · rw [show insStep ("inc", [(n : Int), (t : Int)]) vs = some (t, bump vs n 1) from rfl] at e
    cases e
    exact ⟨h.ins, ht, by rw [bump_len]; exact h.len, h.small⟩
  · by_cases hz : vs[n]? = some 0
    · rw [show insStep ("dec", [(n : Int), (t : Int), (u : Int)]) vs = some (u, vs) from insStep_dec0 hz] at e
      cases e
      exact ⟨h.ins, hu, h.len, h.small⟩
    · rw [show insStep ("dec", [(n : Int), (t : Int), (u : Int)]) vs = some (t, bump vs n (-1)) from insStep_dec1 hz] at e
      cases e
      exact ⟨h.ins, ht, by rw [bump_len]; exact h.len, h.small⟩
def A_changed : Sig := fun ds P => ∃ (vs : List Int) (n : Nat) (d : Int), n < vs.length ∧ vs.length ≤ 1000 ∧ ds = [.tup (dI vs), .int (n : Int), .int d] ∧ P = (· = .tup (dI (bump vs n d)))
def A_step (C : Addr) : Sig := fun ds P => ∃ (c pl : Nat) (xs : List (Str × List Int)) (vs : List Int), Cf c pl xs vs ∧ ds = [.obj C (regF c xs), .tup [.int (pl : Int), .tup (dI vs)]] ∧ P = (· = cfD (regStep xs pl vs))
def A_rstep : Sig := fun ds P => ∃ (c pl : Nat) (xs : List (Str × List Int)) (vs : List Int), Cf c pl xs vs ∧ ds = [.lst (insD xs), .tup [.int (pl : Int), .tup (dI vs)]] ∧ P = (· = cfD (regStep xs pl vs))
section
variable {P : Program} {w : World} {K : PySem.W.Frag} {mg : Str → Option Value} {base : Heap} {C_Turing C_Registers C_InvalidMachine C_BadArgument : Addr}
theorem ok_changed (D : Df K mg "_changed" s_changed) (T : Txt K w mg C_Turing C_Registers C_InvalidMachine C_BadArgument) : C8.Cal P w K mg base 1 "_changed" (spOf Wd0 K A_changed) [] := by
  refine cal_of D (fun _ _ _ _ _ _ us hl => match us, hl with | [_, _, _], _ => rfl) sc_changed (spOf_len (n := 3) fun _ _ ⟨_, _, _, _, _, e, _⟩ => by rw [e]; rfl) fun f cdv A outer s H0 vs Q E hr h => ⟨_, (pss_one (ps_ret (pe_op (r := rCatA K) op_catA (pe_op (r := rCatA K) op_catA (pe_slice (r := rSlA K) sl_tupA (pv 0) po_none (po_some (pv 1))) (pe_tup (pa_cons (pe_op op_add (pe_ix (r := rIxT K) ix_tup (pv 0) (pv 1) (fun _ _ => rfl)) (pv 2)) pa_nil))) (pe_slice (r := rSlA K) sl_tupA (pv 0) (po_some (pe_op op_add (pv 1) pe_int)) po_none)))), ?_⟩
  obtain ⟨G0, ds, P, k, r, ⟨us, n, d, hn, hl, rfl, rfl⟩, q⟩ := h
  have S := S4.start (N := N_changed) k r
  have hx : us[n]? = some us[n] := List.getElem?_eq_getElem hn
  have e1 : (dI us).take n = dI (us.take n) := (List.map_take ..).symm
  have e2 : (dI us).drop (n + 1) = dI (us.drop (n + 1)) := (List.map_drop ..).symm
  refine g_ret (P := (· = .tup (dI (bump us n d)))) (EvX.to (v_cat (xs := dI (us.take n) ++ [.int (us[n] + d)]) (ys := dI (us.drop (n + 1))) (v_cat (xs := dI (us.take n)) (ys := [.int (us[n] + d)]) (EvX.to (v_slT (v_var (d := .tup (dI us)) rfl) o_none (o_some (v_var (d := .int (n : Int)) rfl))) (by rw [cutD_to, e1])) (v_tupx (a_consx (v_add (v_ixT (ds := dI us) (j := n) (v_var rfl) (v_var (d := .int (n : Int)) rfl) rfl (by rw [List.getElem?_map, hx]; rfl)) (v_var rfl)) a_nil) (by simp)) (by simp; omega)) (EvX.to (v_slT (v_var (d := .tup (dI us)) rfl) (o_some (v_add (v_var (d := .int (n : Int)) rfl) v_int)) o_none) (by rw [show ((n : Int) + 1) = ((n + 1 : Nat) : Int) from rfl, cutD_from, e2])) (by simp; omega)) ?_) S q
  unfold bump
  rw [List.set_eq_take_append_cons_drop, if_pos hn, hx]
  simp
theorem ok_step (M : ∃ f fd, Meth K C_Registers "step" f ∧ Fun K "step" "Registers.step" s_Registers_step f fd) (T : Txt K w mg C_Turing C_Registers C_InvalidMachine C_BadArgument) (c_changed : C8.Cal P w K mg base 1 "_changed" (spOf Wd0 K A_changed) []) : C8.Met P w K mg base 2 C_Registers "step" (spOf Wd0 K (A_step C_Registers)) [] := by
  refine met_of T.cls_Registers M (fun _ _ _ _ _ _ us hl => match us, hl with | [_, _], _ => rfl) sc_Registers_step (spOf_len (n := 2) fun _ _ ⟨_, _, _, _, _, e, _⟩ => by rw [e]; rfl) fun f cdv A outer s H0 vs Q E hr h => ⟨_, (pss_cons (ps_asg (pv 1) (pg_tup rfl (pgs_cons (pg_name (i := 2) sc_Registers_step.nd rfl (by first | exact Or.inl rfl | exact Or.inr rfl)) (pgs_cons (pg_name (i := 3) sc_Registers_step.nd rfl (by first | exact Or.inl rfl | exact Or.inr rfl)) pgs_nil))))
      (pss_cons (ps_set (i := 4) sc_Registers_step.nd rfl (by first | exact Or.inl rfl | exact Or.inr rfl) (pe_ix (r := rIxT K) ix_tup (pe_fld (pv 0) rfl) (pv 2) (fun _ _ => rfl)))
      (pss_cons (ps_if (pt_cmpR op_eq (pe_ix (r := rIxT K) ix_tup (pv 4) pe_int (fun _ _ => rfl)) pe_str (nomark _)) (pss_one (ps_ret pe_non)) pss_nil)
      (pss_cons (ps_if (pt_cmpR op_eq (pe_ix (r := rIxT K) ix_tup (pv 4) pe_int (fun _ _ => rfl)) pe_str (nomark _)) (pss_cons (ps_asg (pv 4) (pg_tup rfl (pgs_cons (pg_name (i := 5) sc_Registers_step.nd rfl (by first | exact Or.inl rfl | exact Or.inr rfl)) (pgs_cons (pg_name (i := 6) sc_Registers_step.nd rfl (by first | exact Or.inl rfl | exact Or.inr rfl)) (pgs_cons (pg_name (i := 7) sc_Registers_step.nd rfl (by first | exact Or.inl rfl | exact Or.inr rfl)) pgs_nil)))))
      (pss_one (ps_ret (pe_tup (pa_cons (pv 7) (pa_cons (C8.pe_c c_changed hr (by decide) rfl (pa_cons (pv 3) (pa_cons (pv 6) (pa_cons pe_int pa_nil)))) pa_nil)))))) pss_nil)
      (pss_cons (ps_asg (pv 4) (pg_tup rfl (pgs_cons (pg_name (i := 5) sc_Registers_step.nd rfl (by first | exact Or.inl rfl | exact Or.inr rfl)) (pgs_cons (pg_name (i := 6) sc_Registers_step.nd rfl (by first | exact Or.inl rfl | exact Or.inr rfl)) (pgs_cons (pg_name (i := 7) sc_Registers_step.nd rfl (by first | exact Or.inl rfl | exact Or.inr rfl)) (pgs_cons (pg_name (i := 8) sc_Registers_step.nd rfl (by first | exact Or.inl rfl | exact Or.inr rfl)) pgs_nil))))))
      (pss_cons (ps_if (pt_cmpR op_eq (pe_ix (r := rIxT K) ix_tup (pv 3) (pv 6) (fun _ _ => rfl)) pe_int (nomark _)) (pss_one (ps_ret (pe_tup (pa_cons (pv 8) (pa_cons (pv 3) pa_nil))))) pss_nil)
      (pss_one (ps_ret (pe_tup (pa_cons (pv 7) (pa_cons (C8.pe_c c_changed hr (by decide) rfl (pa_cons (pv 3) (pa_cons (pv 6) (pa_cons (pe_un un_neg pe_int) pa_nil)))) pa_nil))))))))))), ?_⟩
  obtain ⟨G0, ds, P, k, r, ⟨c, pl, xs, us, hc, rfl, rfl⟩, q⟩ := h
  have S := S4.start (N := N_Registers_step) k r
  obtain ⟨x, hx, hs⟩ := hc.at'
  refine q_tup (js := [2, 3]) (ds := [.int (pl : Int), .tup (dI us)]) (v_var rfl) rfl rfl S fun σ G H S => ?_
  refine q_setx (d := ins x) (v_ixT (ds := insD xs) (j := pl) (v_fld (v_var rfl) T.cls_Registers T.na_Registers_instructions rfl) (v_var (d := .int (pl : Int)) rfl) rfl (by rw [List.getElem?_map, hx]; rfl)) S fun σ G H S => ?_
  rw [show regStep xs pl us = insStep x us by unfold regStep; rw [hx]] at q
  rcases hs with rfl | ⟨n, t, rfl, hn, _⟩ | ⟨n, t, u, rfl, hn, _⟩
  · refine q_when (b_testx (v_eqS (v_ix0 (d := .str "end") (v_var (d := ins ("end", [])) rfl) rfl) v_str)) S (fun _ G H S => ?_) (fun e => absurd e.symm (by decide))
    exact g_ret (P := (· = .non)) v_non S q
  · refine q_when (b_testx (v_eqS (v_ix0 (d := .str "inc") (v_var (d := ins ("inc", [(n : Int), (t : Int)])) rfl) rfl) v_str)) S (fun e => absurd e.symm (by decide)) fun _ G H S => ?_
    refine q_when (b_testx (v_eqS (v_ix0 (d := .str "inc") (v_var (d := ins ("inc", [(n : Int), (t : Int)])) rfl) rfl) v_str)) S (fun _ G H S => ?_) (fun e => absurd e.symm (by decide))
    refine q_tup (js := [5, 6, 7]) (ds := [.str "inc", .int (n : Int), .int (t : Int)]) (v_var rfl) rfl rfl S fun σ G H S => ?_
    exact g_ret (P := (· = cfD (some (t, bump us n 1)))) (v_tupx (a_consx (v_var (d := .int (t : Int)) rfl) (a_consx (v_call0x (P := (· = .tup (dI (bump us n 1)))) (a_consx (v_var rfl) (a_consx (v_var (d := .int (n : Int)) rfl) (a_consx v_int a_nil))) ⟨us, n, 1, by have := hc.len; omega, by have := hc.small; have := hc.len; omega, rfl, rfl⟩) a_nil)) (by simp)) S q
  · refine q_when (b_testx (v_eqS (v_ix0 (d := .str "dec") (v_var (d := ins ("dec", [(n : Int), (t : Int), (u : Int)])) rfl) rfl) v_str)) S (fun e => absurd e.symm (by decide)) fun _ G H S => ?_
    refine q_when (b_testx (v_eqS (v_ix0 (d := .str "dec") (v_var (d := ins ("dec", [(n : Int), (t : Int), (u : Int)])) rfl) rfl) v_str)) S (fun e => absurd e.symm (by decide)) fun _ G H S => ?_
    refine q_tup (js := [5, 6, 7, 8]) (ds := [.str "dec", .int (n : Int), .int (t : Int), .int (u : Int)]) (v_var rfl) rfl rfl S fun σ G H S => ?_
    have hn2 : n < us.length := by have := hc.len; omega
    have hv : us[n]? = some us[n] := List.getElem?_eq_getElem hn2
    generalize hvv : us[n] = v at hv
    refine q_when (b_testx (v_eqI (v_ixT (ds := dI us) (j := n) (v_var rfl) (v_var (d := .int (n : Int)) rfl) rfl (by rw [List.getElem?_map, hv]; rfl)) v_int)) S (fun e G H S => ?_) (fun e G H S => ?_)
    · have e := of_decide_eq_true e.symm
      rw [show insStep ("dec", [(n : Int), (t : Int), (u : Int)]) us = some (u, us) from insStep_dec0 (by rw [hv, e])] at q
      exact g_ret (P := (· = cfD (some (u, us)))) (v_tupx (a_consx (v_var (d := .int (u : Int)) rfl) (a_consx (v_var rfl) a_nil)) (by simp)) S q
    · have e := of_decide_eq_false e.symm
      rw [show insStep ("dec", [(n : Int), (t : Int), (u : Int)]) us = some (t, bump us n (-1)) from insStep_dec1 (by rw [hv]; simpa using e)] at q
      exact g_ret (P := (· = cfD (some (t, bump us n (-1))))) (v_tupx (a_consx (v_var (d := .int (t : Int)) rfl) (a_consx (v_call0x (P := (· = .tup (dI (bump us n (-1))))) (a_consx (v_var rfl) (a_consx (v_var (d := .int (n : Int)) rfl) (a_consx (v_neg v_int) a_nil))) ⟨us, n, -1, hn2, by have := hc.small; have := hc.len; omega, rfl, rfl⟩) a_nil)) (by simp)) S q
end
theorem nl_ins (x : Str × List Int) : NL (ins x) := by
  rw [NL, NLs]
  exact ⟨by rw [NL]; trivial, NLs.ints _⟩
theorem nls_ins : ∀ xs : List (Str × List Int), NLs (insD xs)
  | [] => by simp [NLs]
  | x :: xs => by
    show NLs (ins x :: insD xs)
    rw [NLs]
    exact ⟨nl_ins x, nls_ins xs⟩
abbrev GoodI (m k : Nat) (x : Str × List Int) : Prop := Shp m k x
def IsI (m k : Nat) (d : Dat) : Prop := ∃ x, d = ins x ∧ GoodI m k x
def IsM (d : Dat) : Prop := ∃ (c : Nat) (xs : List (Str × List Int)), d = .tup [.int (c : Int), .tup (insD xs)] ∧ 1 ≤ c ∧ c ≤ 3 ∧ 1 ≤ xs.length ∧ xs.length ≤ 6 ∧ ∀ x ∈ xs, GoodI c xs.length x
section
variable {P : Program} {w : World} {K : PySem.W.Frag} {mg : Str → Option Value} {base : Heap} {C_Turing C_Registers C_InvalidMachine C_BadArgument : Addr}
theorem ok_rstep (D : Df K mg "_law_registers_step" s_law_registers_step) (T : Txt K w mg C_Turing C_Registers C_InvalidMachine C_BadArgument) : C8.Cal P w K mg base 1 "_law_registers_step" (spOf Wd0 K A_rstep) [] := by
  refine cal_of D (fun _ _ _ _ _ _ us hl => match us, hl with | [_, _], _ => rfl) sc_law_registers_step (spOf_len (n := 2) fun _ _ ⟨_, _, _, _, _, e, _⟩ => by rw [e]; rfl) fun f cdv A outer s H0 vs Q E hr h => ⟨_, (pss_cons (ps_asg (pv 1) (pg_tup rfl (pgs_cons (pg_name (i := 2) sc_law_registers_step.nd rfl (by first | exact Or.inl rfl | exact Or.inr rfl)) (pgs_cons (pg_name (i := 3) sc_law_registers_step.nd rfl (by first | exact Or.inl rfl | exact Or.inr rfl)) pgs_nil))))
      (pss_cons (ps_set (i := 4) sc_law_registers_step.nd rfl (by first | exact Or.inl rfl | exact Or.inr rfl) (pe_ix (r := rIxL K) ix_list (pv 0) (pv 2) (fun _ _ => rfl)))
      (pss_cons (ps_if (pt_cmpR op_eq (pe_ix (r := rIxT K) ix_tup (pv 4) pe_int (fun _ _ => rfl)) pe_str (nomark _)) (pss_one (ps_ret pe_non)) pss_nil)
      (pss_cons (ps_set (i := 5) sc_law_registers_step.nd rfl (by first | exact Or.inl rfl | exact Or.inr rfl) (pe_callTy call_list_of (by rfl) T.n_list (by decide +kernel) (pa_cons (pv 3) pa_nil)))
      (pss_cons (ps_if (pt_cmpR op_eq (pe_ix (r := rIxT K) ix_tup (pv 4) pe_int (fun _ _ => rfl)) pe_str (nomark _)) (pss_cons (ps_asg (pe_op op_add (pe_ix (r := rIxL K) ix_list (pv 5) (pe_ix (r := rIxT K) ix_tup (pv 4) pe_int (fun _ _ => rfl)) (fun _ _ => rfl)) pe_int) (pg_sub (pv 5) (pe_ix (r := rIxT K) ix_tup (pv 4) pe_int (fun _ _ => rfl)) set_list))
      (pss_one (ps_ret (pe_tup (pa_cons (pe_ix (r := rIxT K) ix_tup (pv 4) pe_int (fun _ _ => rfl)) (pa_cons (pe_tupleOf rfl T.n_tuple (pv 5)) pa_nil)))))) pss_nil)
      (pss_cons (ps_if (pt_cmpR op_eq (pe_ix (r := rIxL K) ix_list (pv 5) (pe_ix (r := rIxT K) ix_tup (pv 4) pe_int (fun _ _ => rfl)) (fun _ _ => rfl)) pe_int (nomark _)) (pss_one (ps_ret (pe_tup (pa_cons (pe_ix (r := rIxT K) ix_tup (pv 4) pe_int (fun _ _ => rfl)) (pa_cons (pv 3) pa_nil))))) pss_nil)
      (pss_cons (ps_asg (pe_op op_sub (pe_ix (r := rIxL K) ix_list (pv 5) (pe_ix (r := rIxT K) ix_tup (pv 4) pe_int (fun _ _ => rfl)) (fun _ _ => rfl)) pe_int) (pg_sub (pv 5) (pe_ix (r := rIxT K) ix_tup (pv 4) pe_int (fun _ _ => rfl)) set_list))
      (pss_one (ps_ret (pe_tup (pa_cons (pe_ix (r := rIxT K) ix_tup (pv 4) pe_int (fun _ _ => rfl)) (pa_cons (pe_tupleOf rfl T.n_tuple (pv 5)) pa_nil)))))))))))), ?_⟩
  obtain ⟨G0, ds, P, k, r, ⟨c, pl, xs, us, hc, rfl, rfl⟩, q⟩ := h
  have S := S4.start (N := N_law_registers_step) k r
  obtain ⟨x, hx, hs⟩ := hc.at'
  refine q_tup (js := [2, 3]) (ds := [.int (pl : Int), .tup (dI us)]) (v_var rfl) rfl rfl S fun σ G H S => ?_
  refine q_setx (d := ins x) (v_ixL (ds := insD xs) (j := pl) (v_var rfl) (v_var (d := .int (pl : Int)) rfl) rfl (by rw [List.getElem?_map, hx]; rfl)) S fun σ G H S => ?_
  have S := S4.weak (.drop (Wk.refl _)) S
  rw [show regStep xs pl us = insStep x us by unfold regStep; rw [hx]] at q
  have hone : ∀ {Γ : List (Option Dat)} {ix : Int} {j : Nat} {d : Dat}, Γ[4]? = some (some (ins x)) → ix = (j : Int) → (Dat.str x.1 :: dI x.2)[j]? = some d → EvX Wd0 K (tOp (rIxT K) (tVar 4) (tC (.int ix))) Γ d := fun h0 h1 h2 => v_ixT (v_var h0) v_int h1 h2
  have hlen := hc.len
  have hsm := hc.small
  rcases hs with rfl | ⟨n, t, rfl, hn, _⟩ | ⟨n, t, u, rfl, hn, _⟩
  · refine q_when (b_testx (v_eqS (hone (j := 0) rfl rfl rfl) v_str)) S (fun _ G H S => ?_) (fun e => absurd e.symm (by decide))
    exact g_ret (P := (· = .non)) v_non S q
  · refine q_when (b_testx (v_eqS (hone (j := 0) rfl rfl rfl) v_str)) S (fun e => absurd (of_decide_eq_true e.symm) (show ¬ ("inc" : Str) = "end" by decide)) fun _ G H S => ?_
    refine q_setN (n_listT (v_var (d := .tup (dI us)) rfl)) S fun l ds σ G H e S => ?_
    subst e
    refine q_when (b_testx (v_eqS (hone (j := 0) rfl rfl rfl) v_str)) S (fun _ G H S => ?_) (fun e => absurd rfl (of_decide_eq_false e.symm))
    have hn2 : n < us.length := by omega
    have hv : us[n]? = some us[n] := List.getElem?_eq_getElem hn2
    refine q_putR (O := []) (i := 5) (R := (· = n)) (P := (· = .int (us[n] + 1))) rfl (nls_ints us) (by simp [NLG, NL, NLs, NLf, nls_ins, nls_ints, setsG, N_law_registers_step]) (fun _ _ h => nomatch h) (v_add (v_ixL (ds := dI us) (j := n) (v_var rfl) (hone (j := 1) (d := .int (n : Int)) rfl rfl rfl) rfl (by rw [List.getElem?_map, hv]; rfl)) v_int) (fun d e => by rw [e, NL]; trivial) (EvX.any (hone (j := 1) (d := .int (n : Int)) rfl rfl rfl) ⟨n, rfl, by rw [List.length_map]; exact hn2, rfl⟩) S fun j d G H hj ej ed S => ?_
    subst ej ed
    rw [dI_set] at S
    obtain ⟨G, S⟩ := S4.keep (i := 5) rfl S
    refine g_ret (P := (· = cfD (some (t, bump us j 1)))) (EvX.to (v_tupx (a_consx (hone (j := 2) (d := .int (t : Int)) rfl rfl rfl) (a_consx (v_tupleLx (v_var rfl)) a_nil)) (by simp)) ?_) S q
    unfold bump
    rw [hv]
    rfl
  · refine q_when (b_testx (v_eqS (hone (j := 0) rfl rfl rfl) v_str)) S (fun e => absurd (of_decide_eq_true e.symm) (show ¬ ("dec" : Str) = "end" by decide)) fun _ G H S => ?_
    refine q_setN (n_listT (v_var (d := .tup (dI us)) rfl)) S fun l ds σ G H e S => ?_
    subst e
    refine q_when (b_testx (v_eqS (hone (j := 0) rfl rfl rfl) v_str)) S (fun e => absurd (of_decide_eq_true e.symm) (show ¬ ("dec" : Str) = "inc" by decide)) fun _ G H S => ?_
    have hn2 : n < us.length := by omega
    have hv : us[n]? = some us[n] := List.getElem?_eq_getElem hn2
    obtain ⟨Gk, S, back⟩ := S4.peek (i := 5) rfl (nls_ints us) S
    refine q_when (b_testx (v_eqI (v_ixL (ds := dI us) (j := n) (v_var rfl) (hone (j := 1) (d := .int (n : Int)) rfl rfl rfl) rfl (by rw [List.getElem?_map, hv]; rfl)) v_int)) S (fun e G H S => ?_) (fun e G H S => ?_)
    · have e := of_decide_eq_true e.symm
      rw [show insStep ("dec", [(n : Int), (t : Int), (u : Int)]) us = some (u, us) from insStep_dec0 (by rw [hv, e])] at q
      exact g_ret (P := (· = cfD (some (u, us)))) (v_tupx (a_consx (hone (j := 3) (d := .int (u : Int)) rfl rfl rfl) (a_consx (v_var (d := .tup (dI us)) rfl) a_nil)) (by simp)) S q
    · have e := of_decide_eq_false e.symm
      rw [show insStep ("dec", [(n : Int), (t : Int), (u : Int)]) us = some (t, bump us n (-1)) from insStep_dec1 (by rw [hv]; simpa using e)] at q
      obtain ⟨G, S⟩ := back S rfl (by simp [NLG, NL, NLs, NLf, nls_ins, nls_ints, setsG, N_law_registers_step]) (fun _ _ h => nomatch h)
      refine q_putR (O := []) (i := 5) (R := (· = n)) (P := (· = .int (us[n] - 1))) rfl (nls_ints us) (by simp [NLG, NL, NLs, NLf, nls_ins, nls_ints, setsG, N_law_registers_step]) (fun _ _ h => nomatch h) (v_sub (v_ixL (ds := dI us) (j := n) (v_var rfl) (hone (j := 1) (d := .int (n : Int)) rfl rfl rfl) rfl (by rw [List.getElem?_map, hv]; rfl)) v_int) (fun d e => by rw [e, NL]; trivial) (EvX.any (hone (j := 1) (d := .int (n : Int)) rfl rfl rfl) ⟨n, rfl, by rw [List.length_map]; exact hn2, rfl⟩) S fun j d G H hj ej ed S => ?_
      subst ej ed
      rw [dI_set] at S
      obtain ⟨G, S⟩ := S4.keep (i := 5) rfl S
      refine g_ret (P := (· = cfD (some (t, bump us j (-1))))) (EvX.to (v_tupx (a_consx (hone (j := 2) (d := .int (t : Int)) rfl rfl rfl) (a_consx (v_tupleLx (v_var rfl)) a_nil)) (by simp)) ?_) S q
      unfold bump
      rw [hv]
      rfl
end
theorem pl_cf {o : Option (Nat × List Int)} (h : ∀ q us, o = some (q, us) → us.length ≤ 1000) : Pl 3 (cfD o) := by
  cases o with
  | none => show Pl 3 .non; rw [Pl]; trivial
  | some x =>
    obtain ⟨q, us⟩ := x
    have := h q us rfl
    show Pl 3 (.tup [.int (q : Int), .tup (dI us)])
    rw [Pl, Pls, Pls, Pls]
    exact ⟨by simp, by rw [Pl]; trivial, Pl.ints (n := 1) (by omega), trivial⟩
end K89.KR

set_option maxHeartbeats 4000000
namespace K89
open PySem L2 Ly
/-! ## configurations, cells of the head -/
abbrev TC := Int × List Int × Int × List Int
abbrev tD (c : TC) : Dat := Tu.cfD c.1 c.2.1 c.2.2.1 c.2.2.2
abbrev RC := Nat × List Int
abbrev rD (c : RC) : Dat := .tup [.int (c.1 : Int), .tup (Ly.dI c.2)]
def oD : Option Nat → Dat
  | none => .non
  | some n => .int (n : Int)
/-- the register that a dec finds empty -/
def empt (xs : List (Str × List Int)) (c : RC) : Option Nat := match xs[c.1]? with
  | some (op, n :: _) => if op = "dec" ∧ c.2[n.toNat]? = some 0 then some n.toNat else none
  | _ => none
/-- the move of a machine at a configuration -/
def mvOf (rows : List (List Int)) (c : TC) : Int := match Tu.ruleOf rows c.1 c.2.2.1 with
  | some [_, _, _, m, _] => m
  | _ => 0
def hd (ms : List Int) (i : Nat) : Int := (ms.take i).sum
def heads (ms : List Int) : List Int := (List.range (ms.length + 1)).map (hd ms)
theorem heads_len (ms : List Int) : (heads ms).length = ms.length + 1 := by
  unfold heads
  rw [List.length_map, List.length_range]
theorem heads_at {ms : List Int} {i : Nat} (h : i ≤ ms.length) : (heads ms)[i]? = some (hd ms i) := by
  unfold heads
  rw [List.getElem?_map, List.getElem?_range (by omega)]
  rfl
theorem hd_next {ms : List Int} {i : Nat} {m : Int} (h : ms[i]? = some m) : hd ms (i + 1) = hd ms i + m := by
  unfold hd
  rw [List.take_succ, h, List.sum_append]
  simp
theorem hd_app {ms : List Int} {m : Int} : (List.range (ms.length + 1)).map (hd (ms ++ [m])) = heads ms := by
  unfold heads
  refine List.map_congr_left fun i hi => ?_
  have := List.mem_range.mp hi
  unfold hd
  rw [List.take_append_of_le_length (by omega)]
theorem hd_all {ms : List Int} {m : Int} : hd (ms ++ [m]) (ms.length + 1) = hd ms ms.length + m := by
  unfold hd
  rw [List.take_of_length_le (by simp), List.take_of_length_le (Nat.le_refl _), List.sum_append]
  simp
theorem heads_app (ms : List Int) (m : Int) : heads (ms ++ [m]) = heads ms ++ [hd ms ms.length + m] := by
  conv => lhs; unfold heads
  rw [List.length_append, List.length_singleton, List.range_succ, List.map_append, hd_app]
  simp [hd_all]
/-! ## sides -/
theorem getD_app {xs : List Int} {x : Int} {k : Nat} : (xs ++ [x]).getD k 0 = if k = xs.length then x else xs.getD k 0 := by
  simp only [List.getD_eq_getElem?_getD]
  split
  · rename_i h
    subst h
    simp
  · rename_i h
    rcases Nat.lt_or_ge k xs.length with h1 | h1
    · rw [List.getElem?_append_left h1]
    · rw [List.getElem?_eq_none (by simp; omega), List.getElem?_eq_none h1]
theorem strip_app (xs : List Int) (x : Int) : Tu.strip (xs ++ [x]) = if x = 0 then Tu.strip xs else xs ++ [x] := by
  unfold Tu.strip
  rw [List.reverse_append]
  by_cases h : x = 0
  · simp [h]
  · simp [h]
theorem rev_ind {p : List Int → Prop} (h0 : p []) (h1 : ∀ xs x, p xs → p (xs ++ [x])) (l : List Int) : p l := by
  have : ∀ n (l : List Int), l.length = n → p l := by
    intro n
    induction n with
    | zero => intro l hl; rw [List.length_eq_zero_iff.mp hl]; exact h0
    | succ n ih =>
      intro l hl
      have hne : l ≠ [] := fun e => by rw [e] at hl; simp at hl
      rw [← List.dropLast_concat_getLast hne]
      exact h1 _ _ (ih _ (by rw [List.length_dropLast]; omega))
  exact this _ l rfl
theorem strip_getD (xs : List Int) (k : Nat) : (Tu.strip xs).getD k 0 = xs.getD k 0 := by
  induction xs using rev_ind with
  | h0 => rfl
  | h1 xs x ih =>
    rw [strip_app, getD_app]
    split
    · rename_i h
      subst h
      rw [ih]
      split
      · rename_i h
        subst h
        simp
      · rfl
    · rw [getD_app]
theorem ends_last {xs : List Int} {x : Int} (h : Tu.Ends (xs ++ [x])) : x ≠ 0 := by
  intro e
  unfold Tu.Ends at h
  rw [strip_app, if_pos e] at h
  have h2 := Tu.strip_len xs
  rw [h, List.length_append, List.length_singleton] at h2
  omega
theorem ends_ext {a b : List Int} (ha : Tu.Ends a) (hb : Tu.Ends b) (h : ∀ k, a.getD k 0 = b.getD k 0) : a = b := by
  have one : ∀ {a b : List Int}, Tu.Ends b → (∀ k, a.getD k 0 = b.getD k 0) → b.length ≤ a.length := by
    intro a b hb h
    rcases Nat.lt_or_ge a.length b.length with hl | hl
    · have hne : b ≠ [] := fun e => by rw [e] at hl; simp at hl
      have e := List.dropLast_concat_getLast hne
      have z := h (b.length - 1)
      have hx : b.getLast hne ≠ 0 := by
        rw [← e] at hb
        exact ends_last hb
      rw [← e, getD_app, if_pos (by rw [List.length_append, List.length_singleton]; omega)] at z
      rw [List.length_append, List.length_singleton, List.length_dropLast] at z
      simp only [List.getD_eq_getElem?_getD] at z
      rw [List.getElem?_eq_none (by omega)] at z
      exact absurd z.symm hx
    · exact hl
  have hl : a.length = b.length := Nat.le_antisymm (one ha fun k => (h k).symm) (one hb h)
  refine List.ext_getElem hl fun k h1 h2 => ?_
  have z := h k
  simp only [List.getD_eq_getElem?_getD] at z
  rw [List.getElem?_eq_getElem h1, List.getElem?_eq_getElem h2] at z
  exact z
theorem strip_eq {a b : List Int} : Tu.strip a = Tu.strip b ↔ ∀ k, a.getD k 0 = b.getD k 0 := by
  constructor
  · intro h k
    rw [← strip_getD a, ← strip_getD b, h]
  · intro h
    refine ends_ext (Tu.ends_strip _) (Tu.ends_strip _) fun k => ?_
    rw [strip_getD, strip_getD, h]
theorem getD_take (l : List Int) (n k : Nat) : (l.take n).getD k 0 = if k < n then l.getD k 0 else 0 := by
  simp only [List.getD_eq_getElem?_getD, List.getElem?_take]
  split <;> simp
theorem near_iff {l l2 : List Int} {n : Nat} : Tu.strip (l.take n) = Tu.strip (l2.take n) ↔ ∀ k, k < n → l.getD k 0 = l2.getD k 0 := by
  rw [strip_eq]
  constructor
  · intro h k hk
    have := h k
    rwa [getD_take, getD_take, if_pos hk, if_pos hk] at this
  · intro h k
    rw [getD_take, getD_take]
    split
    · rename_i hk
      exact h k hk
    · rfl
/-! ## shifts -/
/-- what a cell at a distance from the head has -/
def sym (c : TC) (o : Int) : Int := if o = 0 then c.2.2.1 else if o < 0 then c.2.1.getD (-o - 1).toNat 0 else c.2.2.2.getD (o - 1).toNat 0
theorem all_iff_left {a b : TC} {n : Nat} : (∀ k, k < n → a.2.1.getD k 0 = b.2.1.getD k 0) ↔ ∀ o : Int, -(n : Int) ≤ o → o < 0 → sym a o = sym b o := by
  constructor
  · intro h o h1 h2
    unfold sym
    rw [if_neg (by omega), if_pos h2, if_neg (by omega), if_pos h2]
    exact h _ (by omega)
  · intro h k hk
    have := h (-(k : Int) - 1) (by omega) (by omega)
    unfold sym at this
    rw [if_neg (by omega), if_pos (by omega), if_neg (by omega), if_pos (by omega)] at this
    rwa [show (-(-(k : Int) - 1) - 1).toNat = k by omega] at this
theorem all_iff_right {a b : TC} {n : Nat} : (∀ k, k < n → a.2.2.2.getD k 0 = b.2.2.2.getD k 0) ↔ ∀ o : Int, 0 < o → o ≤ (n : Int) → sym a o = sym b o := by
  constructor
  · intro h o h1 h2
    unfold sym
    rw [if_neg (by omega), if_neg (by omega), if_neg (by omega), if_neg (by omega)]
    exact h _ (by omega)
  · intro h k hk
    have := h ((k : Int) + 1) (by omega) (by omega)
    unfold sym at this
    rw [if_neg (by omega), if_neg (by omega), if_neg (by omega), if_neg (by omega)] at this
    rwa [show ((k : Int) + 1 - 1).toNat = k by omega] at this
/-- a shift as the program tells it: lo and hi are how far the head goes, to the left and to the right, way its move -/
def shB (a b : TC) (lo hi : Nat) (way : Int) : Bool := (decide (a.1 = b.1) && decide (a.2.2.1 = b.2.2.1)) && (!((decide (way > 0) && !decide (a.2.2.2 = b.2.2.2)) || (decide (way < 0) && !decide (a.2.1 = b.2.1))) &&
  (decide (Tu.strip (a.2.1.take lo) = Tu.strip (b.2.1.take lo)) && decide (Tu.strip (a.2.2.2.take hi) = Tu.strip (b.2.2.2.take hi))))
/-- and as the law tells it -/
def shL (a b : TC) (lo hi : Nat) (way : Int) (far : Nat) : Prop := a.1 = b.1 ∧ ∀ o : Int, -(lo : Int) - (if way < 0 then (far : Int) else 0) ≤ o → o ≤ (hi : Int) + (if way > 0 then (far : Int) else 0) → sym a o = sym b o
theorem getD_none {l : List Int} {k : Nat} (h : l.length ≤ k) : l.getD k 0 = 0 := by
  simp only [List.getD_eq_getElem?_getD]
  rw [List.getElem?_eq_none h]
  rfl
theorem side_eq {l l2 : List Int} {far : Nat} (h1 : Tu.Ends l) (h2 : Tu.Ends l2) (b1 : l.length ≤ far) (b2 : l2.length ≤ far) : l = l2 ↔ ∀ k, k < far → l.getD k 0 = l2.getD k 0 := by
  constructor
  · intro h k _
    rw [h]
  · intro h
    refine ends_ext h1 h2 fun k => ?_
    rcases Nat.lt_or_ge k far with z | z
    · exact h k z
    · rw [getD_none (by omega), getD_none (by omega)]
theorem shB_iff {a b : TC} {lo hi far : Nat} {way : Int} (la : Tu.Ends a.2.1) (ra : Tu.Ends a.2.2.2) (lb : Tu.Ends b.2.1) (rb : Tu.Ends b.2.2.2) (bla : a.2.1.length ≤ far) (bra : a.2.2.2.length ≤ far) (blb : b.2.1.length ≤ far) (brb : b.2.2.2.length ≤ far) : shB a b lo hi way = true ↔ shL a b lo hi way far := by
  have s0 : ∀ c : TC, sym c 0 = c.2.2.1 := fun c => rfl
  have near1 := (near_iff (l := a.2.1) (l2 := b.2.1) (n := lo)).trans all_iff_left
  have near2 := (near_iff (l := a.2.2.2) (l2 := b.2.2.2) (n := hi)).trans all_iff_right
  have same1 : ∀ n, far ≤ n → (a.2.1 = b.2.1 ↔ _) := fun n hn => (side_eq (far := n) la lb (by omega) (by omega)).trans all_iff_left
  have same2 : ∀ n, far ≤ n → (a.2.2.2 = b.2.2.2 ↔ _) := fun n hn => (side_eq (far := n) ra rb (by omega) (by omega)).trans all_iff_right
  unfold shB shL
  simp only [Bool.and_eq_true, Bool.not_eq_true', Bool.or_eq_false_iff, Bool.and_eq_false_iff, decide_eq_true_eq, decide_eq_false_iff_not, Bool.not_eq_false']
  constructor
  · rintro ⟨⟨h1, h2⟩, ⟨h3, h4⟩, h5, h6⟩
    refine ⟨h1, fun o o1 o2 => ?_⟩
    by_cases z : o = 0
    · rw [z, s0, s0, h2]
    by_cases zn : o < 0
    · by_cases w : way < 0
      · rw [if_pos w] at o1
        have hs := (same1 (lo + far) (by omega)).mp (h4.resolve_left (by omega))
        exact hs o (by omega) zn
      · rw [if_neg w] at o1
        exact near1.mp h5 o (by omega) zn
    · by_cases w : way > 0
      · rw [if_pos w] at o2
        have hs := (same2 (hi + far) (by omega)).mp (h3.resolve_left (by omega))
        exact hs o (by omega) (by omega)
      · rw [if_neg w] at o2
        exact near2.mp h6 o (by omega) (by omega)
  · rintro ⟨h1, h2⟩
    have g0 : (0 : Int) ≤ (if way < 0 then (far : Int) else 0) := by split <;> omega
    have g1 : (0 : Int) ≤ (if way > 0 then (far : Int) else 0) := by split <;> omega
    refine ⟨⟨h1, by rw [← s0 a, ← s0 b]; exact h2 0 (by omega) (by omega)⟩, ⟨?_, ?_⟩, ?_, ?_⟩
    · by_cases w : way > 0
      · refine .inr ((same2 (hi + far) (by omega)).mpr fun o o1 o2 => h2 o (by omega) ?_)
        rw [if_pos w]
        omega
      · exact .inl w
    · by_cases w : way < 0
      · refine .inr ((same1 (lo + far) (by omega)).mpr fun o o1 o2 => h2 o ?_ (by omega))
        rw [if_pos w]
        omega
      · exact .inl w
    · exact near1.mpr fun o o1 o2 => h2 o (by omega) (by omega)
    · exact near2.mpr fun o o1 o2 => h2 o (by omega) (by omega)
theorem shB_same (a : TC) (lo hi : Nat) (way : Int) : shB a a lo hi way = true := by
  unfold shB
  simp
/-! ## growth -/
def grB (a b : RC) (es : List (Option Nat)) : Bool := decide (a.1 = b.1) && (((a.2.zip b.2).all fun p => decide (p.1 ≤ p.2)) && es.all fun e => match e with
  | none => true
  | some n => decide (a.2[n]? = b.2[n]?))
theorem grB_same (a : RC) (es : List (Option Nat)) : grB a a es = true := by
  unfold grB
  have h1 : ((a.2.zip a.2).all fun p => decide (p.1 ≤ p.2)) = true := by
    rw [List.all_eq_true]
    intro p hp
    obtain ⟨i, hi⟩ := List.mem_iff_getElem?.mp hp
    rw [List.getElem?_zip_eq_some] at hi
    have e := Option.some.inj (hi.1.symm.trans hi.2)
    rw [decide_eq_true_eq, e]
    exact Int.le_refl _
  have h2 : (es.all fun e => match e with
    | none => true
    | some n => decide (a.2[n]? = a.2[n]?)) = true := by
    rw [List.all_eq_true]
    intro e _
    cases e <;> simp
  rw [h1, h2]
  simp
/-! ## the first of all pairs -/
/-- o is the first pair (j, then i) with B i j, of those with i < j < n -/
def Fst (n : Nat) (B : Nat → Nat → Bool) : Option (Nat × Nat) → Prop
  | none => ∀ j, j < n → ∀ i, i < j → B i j = false
  | some (i, j) => (i < j ∧ j < n ∧ B i j = true) ∧ (∀ j2, j2 < j → ∀ i, i < j2 → B i j2 = false) ∧ ∀ i2, i2 < i → B i2 j = false
theorem Fst.one {n : Nat} {B : Nat → Nat → Bool} : ∀ {o o2 : Option (Nat × Nat)}, Fst n B o → Fst n B o2 → o = o2
  | none, none, _, _ => rfl
  | none, some (i, j), h, ⟨⟨h1, h2, h3⟩, _⟩ => by rw [h j h2 i h1] at h3; cases h3
  | some (i, j), none, ⟨⟨h1, h2, h3⟩, _⟩, h => by rw [h j h2 i h1] at h3; cases h3
  | some (i, j), some (i2, j2), ⟨⟨h1, h2, h3⟩, h4, h5⟩, ⟨⟨g1, g2, g3⟩, g4, g5⟩ => by
    have ej : j = j2 := by
      rcases Nat.lt_trichotomy j j2 with z | z | z
      · rw [g4 j z i h1] at h3; cases h3
      · exact z
      · rw [h4 j2 z i2 g1] at g3; cases g3
    subst ej
    have ei : i = i2 := by
      rcases Nat.lt_trichotomy i i2 with z | z | z
      · rw [g5 i z] at h3; cases h3
      · exact z
      · rw [h5 i2 z] at g3; cases g3
    subst ei
    rfl
theorem Fst.ex (B : Nat → Nat → Bool) : ∀ n, ∃ o, Fst n B o
  | 0 => ⟨none, fun j h => absurd h (by omega)⟩
  | n + 1 => by
    obtain ⟨o, h⟩ := Fst.ex B n
    cases o with
    | some p =>
      obtain ⟨i, j⟩ := p
      obtain ⟨⟨h1, h2, h3⟩, h4, h5⟩ := h
      exact ⟨some (i, j), ⟨h1, by omega, h3⟩, h4, h5⟩
    | none =>
      have row : ∀ m, (∀ i, i < m → B i n = false) ∨ ∃ i, i < m ∧ B i n = true ∧ ∀ i2, i2 < i → B i2 n = false := by
        intro m
        induction m with
        | zero => exact .inl fun i h => absurd h (by omega)
        | succ m ih =>
          rcases ih with z | ⟨i, h1, h2, h3⟩
          · cases e : B m n with
            | true => exact .inr ⟨m, by omega, e, z⟩
            | false =>
              refine .inl fun i hi => ?_
              rcases Nat.lt_or_ge i m with y | y
              · exact z i y
              · rw [show i = m by omega]
                exact e
          · exact .inr ⟨i, by omega, h2, h3⟩
      rcases row n with z | ⟨i, h1, h2, h3⟩
      · refine ⟨none, fun j hj => ?_⟩
        rcases Nat.lt_or_ge j n with y | y
        · exact h j y
        · rw [show j = n by omega]
          exact z
      · exact ⟨some (i, n), ⟨h1, by omega, h2⟩, h, h3⟩
/-- the paper of a pair: one is the same in both -/
def papD (kind : Str) (same : Nat → Nat → Bool) : Option (Nat × Nat) → Dat
  | none => .non
  | some (i, j) => .tup [.str (if same i j = true then "repeat" else kind), .int (i : Int), .int (j : Int)]
end K89

set_option maxHeartbeats 4000000
namespace K89
open PySem L2 Ly
def A_note (CT CR : Addr) : Sig := fun ds P => (∃ (st sy : Int) (rows : List (List Int)) (fsd : List (Str × Dat)) (c : TC) (w m f : Int), Tu.TurG st sy rows fsd ∧ Tu.ruleOf rows c.1 c.2.2.1 = some [c.1, c.2.2.1, w, m, f] ∧ ds = [.obj CT fsd, tD c] ∧ P = (· = .int m)) ∨
  (∃ (c : Nat) (xs : List (Str × List Int)) (r : RC), KR.Cf c r.1 xs r.2 ∧ ds = [.obj CR (KR.regF c xs), rD r] ∧ P = (· = oD (empt xs r)))
def A_cells : Sig := fun ds P => ∃ ms : List Int, ms.length ≤ 1000 ∧ ds = [.lst (Ly.dI ms)] ∧ P = (· = .lst (Ly.dI (heads ms)))
def A_near : Sig := fun ds P => ∃ (l l2 : List Int) (n : Nat), l.length ≤ 1000 ∧ l2.length ≤ 1000 ∧ ds = [.tup (Ly.dI l), .tup (Ly.dI l2), .int (n : Int)] ∧ P = (· = .bl (decide (Tu.strip (l.take n) = Tu.strip (l2.take n))))
def A_same : Sig := fun ds P => ∃ (l l2 : List Int), l.length ≤ 1000 ∧ l2.length ≤ 1000 ∧ ds = [.tup (Ly.dI l), .tup (Ly.dI l2)] ∧ P = (· = .bl (decide (l = l2)))
/-- how far the head goes in hs, which begins at h0 -/
structure Reach (hs : List Int) (h0 hl : Int) (lo hi : Nat) : Prop where
  zero : hs[0]? = some h0
  last : hs[hs.length - 1]? = some hl
  lo0 : h0 - (lo : Int) ∈ hs
  lo1 : ∀ y ∈ hs, h0 - (lo : Int) ≤ y
  hi0 : h0 + (hi : Int) ∈ hs
  hi1 : ∀ y ∈ hs, y ≤ h0 + (hi : Int)
def A_shift : Sig := fun ds P => ∃ (a b : TC) (hs : List Int) (h0 hl : Int) (lo hi : Nat), (a.2.1.length ≤ 1000 ∧ a.2.2.2.length ≤ 1000 ∧ b.2.1.length ≤ 1000 ∧ b.2.2.2.length ≤ 1000) ∧ Reach hs h0 hl lo hi ∧ ds = [tD a, tD b, .lst (Ly.dI hs)] ∧ P = (· = .bl (shB a b lo hi (hl - h0)))
def A_growth : Sig := fun ds P => ∃ (a b : RC) (es : List (Option Nat)), a.2.length = b.2.length ∧ a.2.length ≤ 1000 ∧ es.length ≤ 1000 ∧ (∀ n, some n ∈ es → n < a.2.length) ∧ ds = [rD a, rD b, .lst (es.map oD)] ∧ P = (· = .bl (grB a b es))
theorem eqv_two (a b c d : Int) : PyData.eqv (toPy (.tup [.int a, .int b])) (toPy (.tup [.int c, .int d])) = (decide (a = c) && decide (b = d)) := by
  rw [show (PyData.eqv (toPy (.tup [.int a, .int b])) (toPy (.tup [.int c, .int d]))) = decide ([a, b] = [c, d]) from eqv_ints [a, b] [c, d]]
  by_cases h : a = c <;> by_cases h2 : b = d <;> simp [h, h2]
theorem nl_int (i : Int) : NL (.int i) := by rw [NL]; trivial
section
variable {P : Program} {w : World} {K : PySem.W.Frag} {mg : Str → Option Value} {base : Heap} {C_Turing C_Registers C_InvalidMachine C_BadArgument : Addr}
theorem ok_without (D : Df K mg "without_end_blanks" s_without_end_blanks) (T : Txt K w mg C_Turing C_Registers C_InvalidMachine C_BadArgument) : C8.Cal P w K mg base 1 "without_end_blanks" (spOf Wd0 K KT.A_strip) [] := by
  refine cal_of D (fun _ _ _ _ _ _ us hl => match us, hl with | [_], _ => rfl) sc_without_end_blanks (spOf_len (n := 1) fun _ _ ⟨_, _, e, _⟩ => by rw [e]; rfl) fun f cdv A outer s H0 vs Q E hr h => ⟨_, (pss_cons (ps_set (i := 1) sc_without_end_blanks.nd rfl (by first | exact Or.inl rfl | exact Or.inr rfl) (pe_callB (r := Ly.rLen K) call_len_seq (by rfl) T.n_len PySem.boot_len (pa_cons (pv 0) pa_nil)))
      (pss_cons (ps_while PassesOwn.never (PW.pt (pw_and (pt_cmpR op_gt (pv 1) pe_int (nomark _)) (pw_and1 (pt_cmpR op_eq (pe_ix (r := rIxT K) ix_tup (pv 0) (pe_op op_sub (pv 1) pe_int) (fun _ _ => rfl)) (C8.pe_gc (v := .int 0) rfl T.m_BLANK) (nomark _)))))
        (pss_one (ps_aug (i := 1) sc_without_end_blanks.nd rfl (by first | exact Or.inl rfl | exact Or.inr rfl) pe_int ip_sub)))
      (pss_one (ps_ret (pe_slice (r := rSlA K) sl_tupA (pv 0) po_none (po_some (pv 1))))))), ?_⟩
  obtain ⟨G0, ds, P, k, r, ⟨ns, hl, rfl, rfl⟩, q⟩ := h
  have S := S4.start (N := N_without_end_blanks) k r
  refine q_setx (d := .int (ns.length : Int)) (EvX.to (v_lenT (v_var rfl)) (by rw [List.length_map])) S fun σ G H S => ?_
  refine q_whilex ns.length (fun m Γ O => O = [] ∧ Γ = [some (.tup (dI ns)), some (.int (m : Int))] ∧ m ≤ ns.length ∧ Tu.strip (ns.take m) = Tu.strip ns) S ⟨rfl, rfl, Nat.le_refl _, by rw [List.take_length]⟩ ?_
  rintro m Γ O ⟨rfl, rfl, hm, hs⟩
  have fin : ∀ σ' G' H', Tu.strip (ns.take m) = ns.take m → S4 Wd0 K G0 G0 H0 [some (.tup (dI ns)), some (.int (m : Int))] [] σ' G' H' → tRet (tSl (rSlA K) (tVar 0) tNoPart (tPart (tVar 1))) { nx := fun _ H' => Q .non H', rt := Q } σ' H' := fun σ' G' H' e S => by
    refine g_ret (P := (· = .tup (dI (Tu.strip ns)))) (EvX.to (v_slT (v_var rfl) o_none (o_some (v_var rfl))) ?_) S q
    rw [cutD_to, ← hs, e]
    exact congrArg Dat.tup (List.map_take ..).symm
  cases m with
  | zero =>
    refine ⟨false, ?_, (fun e => nomatch e), fun _ σ' G' H' S => fin σ' G' H' rfl S⟩
    refine EvBX.to (b_andx (a := false) (b := false) (b_testx (EvX.to (v_gt (v_var rfl) v_int) rfl)) (fun e => nomatch e)) rfl
  | succ m =>
    have hx : ns[m]? = some ns[m] := List.getElem?_eq_getElem (by omega)
    refine ⟨decide (ns[m] = 0), ?_, fun e σ' G' H' S => ?_, fun e σ' G' H' S => ?_⟩
    · refine EvBX.to (b_andx (a := true) (b := decide (ns[m] = 0)) (b_testx (EvX.to (v_gt (v_var rfl) v_int) ?_)) (fun _ => b_testx (v_eqI (v_ixT (j := m) (v_var rfl) (v_sub (v_var rfl) v_int) (by omega) (by rw [List.getElem?_map, hx]; rfl)) v_int))) rfl
      exact congrArg Dat.bl (decide_eq_true (by omega))
    · refine g_aug (a := ((m + 1 : Nat) : Int)) (b := 1) rfl v_int S fun σ G H S => ⟨m, Nat.lt_succ_self m, _, _, _, ⟨rfl, ?_, by omega, ?_⟩, S⟩
      · have e2 : ((m + 1 : Nat) : Int) - 1 = (m : Int) := by omega
        rw [e2]
        rfl
      · rw [← hs]
        have e3 := of_decide_eq_true e
        rw [e3] at hx
        exact (Tu.strip_zero hx).symm
    · refine fin σ' G' H' ?_ S
      exact Tu.strip_done hx (of_decide_eq_false e)
theorem ok_near (D : Df K mg "_are_near" s_are_near) (T : Txt K w mg C_Turing C_Registers C_InvalidMachine C_BadArgument) (c_without_end_blanks : C8.Cal P w K mg base 1 "without_end_blanks" (spOf Wd0 K KT.A_strip) []) : C8.Cal P w K mg base 2 "_are_near" (spOf Wd0 K A_near) [] := by
  refine cal_of D (fun _ _ _ _ _ _ us hl => match us, hl with | [_, _, _], _ => rfl) sc_are_near (spOf_len (n := 3) fun _ _ ⟨_, _, _, _, _, e, _⟩ => by rw [e]; rfl) fun f cdv A outer s H0 vs Q E hr h => ⟨_, (pss_one (ps_ret (pe_cmpR (op_eqD hr.units) (C8.pe_c c_without_end_blanks hr (by decide) rfl (pa_cons (pe_slice (r := rSlA K) sl_tupA (pv 0) po_none (po_some (pv 2))) pa_nil)) (C8.pe_c c_without_end_blanks hr (by decide) rfl (pa_cons (pe_slice (r := rSlA K) sl_tupA (pv 1) po_none (po_some (pv 2))) pa_nil)) (nomark _)))), ?_⟩
  obtain ⟨G0, ds, P, k, r, ⟨l, l2, n, hl, hl2, rfl, rfl⟩, q⟩ := h
  have S := S4.start (N := N_are_near) k r
  have one : ∀ (l : List Int) (i : Nat), l.length ≤ 1000 → [some (Dat.tup (dI l)), some (Dat.int (n : Int))] = [some (Dat.tup (dI l)), some (Dat.int (n : Int))] → Tu.strip (l.take n) = Tu.strip (l.take n) := fun _ _ _ _ => rfl
  have st : ∀ {Γ : List (Option Dat)} {i : Nat} {E : XK} {l : List Int}, l.length ≤ 1000 → Γ[i]? = some (some (.tup (dI l))) → Γ[2]? = some (some (.int (n : Int))) → EvX Wd0 K (tCall (spOf Wd0 K KT.A_strip) [] E (tCons (tSl (rSlA K) (tVar i) tNoPart (tPart (tVar 2))) tNil)) Γ (.tup (dI (Tu.strip (l.take n)))) := fun {Γ i E l} hl h1 h2 => v_call0x (a_consx (d := .tup (dI (l.take n))) (EvX.to (v_slT (v_var h1) o_none (o_some (v_var h2))) (by rw [cutD_to]; exact congrArg Dat.tup (List.map_take ..).symm)) a_nil) ⟨l.take n, by rw [List.length_take]; omega, rfl, rfl⟩
  have hb : ∀ l : List Int, l.length ≤ 1000 → Pl 2 (.tup (dI (Tu.strip (l.take n)))) := fun l hl => Pl.ints (n := 1) (by have := Tu.strip_len (l.take n); rw [List.length_take] at this; omega)
  exact g_ret (P := (· = .bl (decide (Tu.strip (l.take n) = Tu.strip (l2.take n))))) (EvX.to (v_eqD (n := 2) (st hl rfl rfl) (st hl2 rfl rfl) (hb l hl) (hb l2 hl2) (by omega)) (by rw [eqv_ints])) S q
theorem ok_same (D : Df K mg "_are_same" s_are_same) (T : Txt K w mg C_Turing C_Registers C_InvalidMachine C_BadArgument) : C8.Cal P w K mg base 1 "_are_same" (spOf Wd0 K A_same) [] := by
  refine cal_of D (fun _ _ _ _ _ _ us hl => match us, hl with | [_, _], _ => rfl) sc_are_same (spOf_len (n := 2) fun _ _ ⟨_, _, _, _, e, _⟩ => by rw [e]; rfl) fun f cdv A outer s H0 vs Q E hr h => ⟨_, (pss_one (ps_ret (pe_and (pe_cmpR op_eq (pe_callB (r := Ly.rLen K) call_len_seq (by rfl) T.n_len PySem.boot_len (pa_cons (pv 0) pa_nil)) (pe_callB (r := Ly.rLen K) call_len_seq (by rfl) T.n_len PySem.boot_len (pa_cons (pv 1) pa_nil)) (nomark _)) (pe_one (pe_cmpR (op_eqD hr.units) (pv 0) (pv 1) (nomark _)))))), ?_⟩
  obtain ⟨G0, ds, P, k, r, ⟨l, l2, hl, hl2, rfl, rfl⟩, q⟩ := h
  have S := S4.start (N := N_are_same) k r
  refine g_ret (P := (· = .bl (decide (l = l2)))) (EvX.to (v_andx (v_eqI (v_lenT (v_var (d := .tup (dI l)) rfl)) (v_lenT (v_var (d := .tup (dI l2)) rfl))) fun _ => EvX.to (v_eqD (n := 2) (v_var (d := .tup (dI l)) rfl) (v_var (d := .tup (dI l2)) rfl) (Pl.ints (n := 1) (by omega)) (Pl.ints (n := 1) (by omega)) (by omega)) (by rw [eqv_ints])) ?_) S q
  congr 1
  rw [List.length_map, List.length_map]
  by_cases h : l = l2
  · simp [h]
  · simp [h]
theorem ok_cells (D : Df K mg "_head_cells" s_head_cells) (T : Txt K w mg C_Turing C_Registers C_InvalidMachine C_BadArgument) : C8.Cal P w K mg base 1 "_head_cells" (spOf Wd0 K A_cells) [] := by
  refine cal_of D (fun _ _ _ _ _ _ us hl => match us, hl with | [_], _ => rfl) sc_head_cells (spOf_len (n := 1) fun _ _ ⟨_, _, e, _⟩ => by rw [e]; rfl) fun f cdv A outer s H0 vs Q E hr h => ⟨_, (pss_cons (ps_set (i := 1) sc_head_cells.nd rfl (by first | exact Or.inl rfl | exact Or.inr rfl) (pe_lst (pa_cons pe_int pa_nil)))
      (pss_cons (ps_for PassesOwn.never rfl (pi_list (pv 0)) (pg_name (i := 2) sc_head_cells.nd rfl (by first | exact Or.inl rfl | exact Or.inr rfl))
        (pss_one (ps_expr (pe_bm PySem.F.plainAttrs_list PySem.F.slot_list_append PySem.F.type_list_append mt_append (pv 1) (pa_cons (pe_op op_add (pe_ix (r := rIxL K) ix_list (pv 1) (pe_un un_neg pe_int) (fun _ _ => rfl)) (pv 2)) pa_nil)))))
      (pss_one (ps_ret (pv 1))))), ?_⟩
  obtain ⟨G0, ds, P, k, r, ⟨ms, hl, rfl, rfl⟩, q⟩ := h
  have S := S4.start (N := N_head_cells) k r
  refine q_setN (P := (· = [.int 0])) (n_lst (a_consx v_int a_nil) fun ds e => by rw [e]; simp) S fun l ds σ G H e S => ?_
  subst e
  refine q_forL (ds := dI ms) (v_var (d := .lst (dI ms)) rfl) S (fun i Γ O => O = [(l, dI (heads (ms.take i)))] ∧ ∃ z, Γ = [some (.lst (dI ms)), some (.adr l), z]) ⟨rfl, none, rfl⟩ ?_ ?_
  · rintro G1 i d Γ O σ G H hdd ⟨rfl, z, rfl⟩ S
    rw [List.getElem?_map] at hdd
    obtain ⟨m, hm, rfl⟩ := Option.map_eq_some_iff.mp hdd
    have hlt := (List.getElem?_eq_some_iff.mp hm).1
    have htl : (ms.take i).length = i := by rw [List.length_take]; omega
    refine g_appX (v_var rfl) S fun G2 H2 S Q2 q2 => ?_
    refine S4.look (P := (· = .int (hd (ms.take i) i + m))) (i := 1) (l := l) (ds := dI (heads (ms.take i))) rfl List.mem_cons_self (v_add (v_lastL (ds := dI (heads (ms.take i))) (d := .int (hd (ms.take i) i)) (v_var rfl) (v_neg v_int) (by rw [List.length_map, heads_len]; omega) (by
      rw [List.length_map, heads_len, htl, List.getElem?_map, Nat.add_sub_cancel, heads_at (by omega)]
      rfl)) (v_var (d := .int m) rfl)) (fun d e => by rw [e]; exact nl_int _) S fun v d G3 H3 S3 e r => q2 v d _ G3 H3 S3 (by rw [List.length_map, heads_len]; omega) r fun G4 H4 S4 => ?_
    refine ⟨_, _, _, ⟨?_, _, rfl⟩, S4⟩
    rw [e, List.take_succ, hm, Option.toList_some, heads_app, htl]
    show _ = [(l, List.map Dat.int _)]
    rw [List.map_append]
    rfl
  · rintro Γ O σ G H ⟨rfl, z, rfl⟩ S
    rw [List.length_map, List.take_length] at S
    obtain ⟨G, S⟩ := S4.keep (i := 1) rfl S
    exact g_ret (P := (· = .lst (dI (heads ms)))) (v_var (i := 1) rfl) S q
theorem ok_note (QT : ∃ f, ClsQ K C_Turing f) (QR : ∃ f, ClsQ K C_Registers f) (D : Df K mg "_note" s_note) (T : Txt K w mg C_Turing C_Registers C_InvalidMachine C_BadArgument) (c_P_rule : MetP P w K mg base 1 "rule" [(C_Turing, spOf Wd0 K (KT.A_rule C_Turing))]) : C8.Cal P w K mg base 2 "_note" (spOf Wd0 K (A_note C_Turing C_Registers)) [] := by
  obtain ⟨fT, hT⟩ := QT
  obtain ⟨fR, hR⟩ := QR
  refine cal_of D (fun _ _ _ _ _ _ us hl => match us, hl with | [_, _], _ => rfl) sc_note (spOf_len (n := 2) fun _ _ h => by
    rcases h with ⟨_, _, _, _, _, _, _, _, _, _, e, _⟩ | ⟨_, _, _, _, e, _⟩ <;> (rw [e]; rfl)) fun f cdv A outer s H0 vs Q E hr h => ⟨_, (pss_cons (ps_if (pt_val (pe_callB (r := rIsi K) call_isi (by rfl) T.n_isinstance (by decide +kernel) (pa_cons (pv 0) (pa_cons (pe_glob (v := .ref C_Turing) rfl T.g_Turing rfl) pa_nil)))) (pss_cons (ps_asg (pv 1) (pg_tup rfl (pgs_cons (pg_name (i := 2) sc_note.nd rfl (by first | exact Or.inl rfl | exact Or.inr rfl)) (pgs_cons (pg_name (i := 3) sc_note.nd rfl (by first | exact Or.inl rfl | exact Or.inr rfl)) (pgs_cons (pg_name (i := 4) sc_note.nd rfl (by first | exact Or.inl rfl | exact Or.inr rfl)) (pgs_cons (pg_name (i := 3) sc_note.nd rfl (by first | exact Or.inl rfl | exact Or.inr rfl)) pgs_nil))))))
      (pss_cons (ps_asg (pe_mP c_P_rule hr (by decide) (pv 0) (pa_cons (pv 2) (pa_cons (pv 4) pa_nil))) (pg_tup rfl (pgs_cons (pg_name (i := 3) sc_note.nd rfl (by first | exact Or.inl rfl | exact Or.inr rfl)) (pgs_cons (pg_name (i := 5) sc_note.nd rfl (by first | exact Or.inl rfl | exact Or.inr rfl)) (pgs_cons (pg_name (i := 3) sc_note.nd rfl (by first | exact Or.inl rfl | exact Or.inr rfl)) pgs_nil)))))
      (pss_one (ps_ret (pv 5))))) pss_nil)
      (Evl.pss_cut (ps_if (pt_val (pe_callB (r := rIsi K) call_isi (by rfl) T.n_isinstance (by decide +kernel) (pa_cons (pv 0) (pa_cons (pe_glob (v := .ref C_Registers) rfl T.g_Registers rfl) pa_nil)))) (pss_cons (ps_asg (pv 1) (pg_tup rfl (pgs_cons (pg_name (i := 6) sc_note.nd rfl (by first | exact Or.inl rfl | exact Or.inr rfl)) (pgs_cons (pg_name (i := 7) sc_note.nd rfl (by first | exact Or.inl rfl | exact Or.inr rfl)) pgs_nil))))
      (pss_cons (ps_set (i := 8) sc_note.nd rfl (by first | exact Or.inl rfl | exact Or.inr rfl) (pe_ix (r := rIxT K) ix_tup (pe_fld (pv 0) rfl) (pv 6) (fun _ _ => rfl)))
      (pss_one (ps_if (PW.pt (pw_and (pt_cmpR op_eq (pe_ix (r := rIxT K) ix_tup (pv 8) pe_int (fun _ _ => rfl)) pe_str (nomark _)) (pw_and1 (pt_cmpR op_eq (pe_ix (r := rIxT K) ix_tup (pv 7) (pe_ix (r := rIxT K) ix_tup (pv 8) pe_int (fun _ _ => rfl)) (fun _ _ => rfl)) pe_int (nomark _))))) (pss_one (ps_ret (pe_ix (r := rIxT K) ix_tup (pv 8) pe_int (fun _ _ => rfl)))) pss_nil)))) pss_nil)
      (pss_one (ps_ret pe_non)))), ?_⟩
  obtain ⟨G0, ds, P, k, rr, hc, q⟩ := h
  have S := S4.start (N := N_note) k rr
  rcases hc with ⟨st, sy, rows, fsd, ⟨a, l, s, r⟩, w, m, f, hF, hru, rfl, rfl⟩ | ⟨c, xs, ⟨pl, us⟩, hC, rfl, rfl⟩
  · refine q_when (b_Bx (v_isOwn hT (v_var (d := .obj C_Turing fsd) rfl))) S (fun _ G H S => ?_) (fun e => nomatch e)
    refine q_tup (js := [2, 3, 4, 3]) (ds := [.int a, .tup (dI l), .int s, .tup (dI r)]) (v_var (i := 1) rfl) rfl rfl S fun σ G H S => ?_
    have hru : Tu.ruleOf rows a s = some [a, s, w, m, f] := hru
    have lk : fsd.lookup ("rule" : Str) = none := by
      obtain ⟨ss, es, _, _, _, _, rfl⟩ := hF
      rfl
    refine q_tup (js := [3, 5, 3]) (ds := [.int w, .int m, .int f]) (v_methP (P := (· = .tup [.int w, .int m, .int f])) (A := KT.A_rule C_Turing) List.mem_cons_self (v_var (i := 0) (d := .obj C_Turing fsd) rfl) lk (a_consx (v_var (i := 2) (d := .int a) rfl) (a_consx (v_var (i := 4) (d := .int s) rfl) a_nil)) fun ds e => by
      subst e
      exact ⟨st, sy, rows, fsd, a, s, hF, rfl, by rw [KT.deed_some hru]⟩) rfl rfl S fun σ G H S => ?_
    exact g_ret (P := (· = .int m)) (v_var (i := 5) rfl) S q
  · refine q_when (b_Bx (v_isCls hR T.ki_Registers_Turing (v_var (d := .obj C_Registers (KR.regF c xs)) rfl))) S (fun e => nomatch e) fun _ G H S => ?_
    obtain ⟨x, hx, hs⟩ := hC.at'
    have hlen : us.length = c := hC.len
    have hx : xs[pl]? = some x := hx
    refine q_cut (fun σ H => empt xs (pl, us) = none ∧ ∃ Γ G, S4 Wd0 K G0 G0 H0 Γ [] σ G H) ?_ ?_
    · refine g_if (b_Bx (v_isOwn hR (v_var (d := .obj C_Registers (KR.regF c xs)) rfl))) S (fun _ G H S => ?_) (fun e => nomatch e)
      refine q_tup (js := [6, 7]) (ds := [.int (pl : Int), .tup (dI us)]) (v_var (i := 1) rfl) rfl rfl S fun σ G H S => ?_
      refine q_setx (d := KR.ins x) (v_ixT (ds := KR.insD xs) (j := pl) (v_fld (d := .tup (KR.insD xs)) (v_var (d := .obj C_Registers (KR.regF c xs)) rfl) T.cls_Registers T.na_Registers_instructions rfl) (v_var (i := 6) (d := .int (pl : Int)) rfl) rfl (by rw [List.getElem?_map, hx]; rfl)) S fun σ G H S => ?_
      have hone : ∀ {Γ : List (Option Dat)} {ix : Int} {j : Nat} {d : Dat}, Γ[8]? = some (some (KR.ins x)) → ix = (j : Int) → (Dat.str x.1 :: dI x.2)[j]? = some d → EvX Wd0 K (tOp (rIxT K) (tVar 8) (tC (.int ix))) Γ d := fun h0 h1 h2 => v_ixT (v_var h0) v_int h1 h2
      rcases hs with rfl | ⟨n, t, rfl, hn, _⟩ | ⟨n, t, u, rfl, hn, _⟩
      · refine g_if (EvBX.to (b_andx (a := false) (b := false) (b_testx (EvX.to (v_eqS (hone (j := 0) (d := .str "end") rfl rfl rfl) v_str) (by rfl))) fun e => nomatch e) rfl) S (fun e => nomatch e) fun _ G H S => ?_
        refine ⟨?_, _, _, S⟩
        show empt xs (pl, us) = none
        unfold empt
        rw [hx]
      · refine g_if (EvBX.to (b_andx (a := false) (b := false) (b_testx (EvX.to (v_eqS (hone (j := 0) (d := .str "inc") rfl rfl rfl) v_str) (by rfl))) fun e => nomatch e) rfl) S (fun e => nomatch e) fun _ G H S => ?_
        refine ⟨?_, _, _, S⟩
        unfold empt
        rw [hx]
        show (if ("inc" : Str) = "dec" ∧ _ then _ else _) = _
        rw [if_neg (fun z => absurd z.1 (by decide))]
      · have hn2 : n < us.length := by omega
        have hv : us[n]? = some us[n] := List.getElem?_eq_getElem hn2
        generalize hvv : us[n] = v at hv
        have em : empt xs (pl, us) = if v = 0 then some n else none := by
          unfold empt
          rw [hx]
          show (if ("dec" : Str) = "dec" ∧ us[n]? = some 0 then some n else none) = _
          rw [hv]
          by_cases z : v = 0 <;> simp [z]
        refine g_if (EvBX.to (b_andx (a := true) (b := decide (v = 0)) (b_testx (EvX.to (v_eqS (hone (j := 0) (d := .str "dec") rfl rfl rfl) v_str) (by rfl))) fun _ => b_testx (v_eqI (v_ixT (ds := dI us) (j := n) (v_var (i := 7) rfl) (hone (j := 1) (d := .int (n : Int)) rfl rfl rfl) rfl (by rw [List.getElem?_map, hv]; rfl)) v_int)) rfl) S (fun e G H S => ?_) fun e G H S => ?_
        · rw [if_pos (of_decide_eq_true e.symm)] at em
          rw [em] at q
          exact g_ret (P := (· = .int (n : Int))) (hone (j := 1) (d := .int (n : Int)) rfl rfl rfl) S q
        · rw [if_neg (of_decide_eq_false e.symm)] at em
          exact ⟨em, _, _, S⟩
    · rintro σ H ⟨em, Γ, G, S⟩
      rw [em] at q
      exact g_ret (P := (· = .non)) v_non S q
theorem ok_shift (D : Df K mg "_is_shift" s_is_shift) (T : Txt K w mg C_Turing C_Registers C_InvalidMachine C_BadArgument) (c_are_same : C8.Cal P w K mg base 1 "_are_same" (spOf Wd0 K A_same) []) (c_are_near : C8.Cal P w K mg base 2 "_are_near" (spOf Wd0 K A_near) []) : C8.Cal P w K mg base 3 "_is_shift" (spOf Wd0 K A_shift) [] := by
  refine cal_of D (fun _ _ _ _ _ _ us hl => match us, hl with | [_, _, _], _ => rfl) sc_is_shift (spOf_len (n := 3) fun _ _ ⟨_, _, _, _, _, _, _, _, _, e, _⟩ => by rw [e]; rfl) fun f cdv A outer s H0 vs Q E hr h => ⟨_, (pss_cons (ps_asg (pv 0) (pg_tup rfl (pgs_cons (pg_name (i := 3) sc_is_shift.nd rfl (by first | exact Or.inl rfl | exact Or.inr rfl)) (pgs_cons (pg_name (i := 4) sc_is_shift.nd rfl (by first | exact Or.inl rfl | exact Or.inr rfl)) (pgs_cons (pg_name (i := 5) sc_is_shift.nd rfl (by first | exact Or.inl rfl | exact Or.inr rfl)) (pgs_cons (pg_name (i := 6) sc_is_shift.nd rfl (by first | exact Or.inl rfl | exact Or.inr rfl)) pgs_nil))))))
      (pss_cons (ps_asg (pv 1) (pg_tup rfl (pgs_cons (pg_name (i := 7) sc_is_shift.nd rfl (by first | exact Or.inl rfl | exact Or.inr rfl)) (pgs_cons (pg_name (i := 8) sc_is_shift.nd rfl (by first | exact Or.inl rfl | exact Or.inr rfl)) (pgs_cons (pg_name (i := 9) sc_is_shift.nd rfl (by first | exact Or.inl rfl | exact Or.inr rfl)) (pgs_cons (pg_name (i := 10) sc_is_shift.nd rfl (by first | exact Or.inl rfl | exact Or.inr rfl)) pgs_nil))))))
      (pss_cons (ps_if (pt_cmpR (op_neD hr.units) (pe_tup (pa_cons (pv 3) (pa_cons (pv 5) pa_nil))) (pe_tup (pa_cons (pv 7) (pa_cons (pv 9) pa_nil))) (nomark _)) (pss_one (ps_ret pe_bl)) pss_nil)
      (pss_cons (ps_set (i := 11) sc_is_shift.nd rfl (by first | exact Or.inl rfl | exact Or.inr rfl) (pe_op op_sub (pe_ix (r := rIxL K) ix_list (pv 2) (pe_un un_neg pe_int) (fun _ _ => rfl)) (pe_ix (r := rIxL K) ix_list (pv 2) pe_int (fun _ _ => rfl))))
      (pss_cons (ps_if (PW.pt (pw_or (PW.pt (pw_and (pt_cmpR op_gt (pv 11) pe_int (nomark _)) (pw_and1 (pt_not (pt_val (C8.pe_c c_are_same hr (by decide) rfl (pa_cons (pv 6) (pa_cons (pv 10) pa_nil)))))))) (pw_or1 (PW.pt (pw_and (pt_cmpR op_lt (pv 11) pe_int (nomark _)) (pw_and1 (pt_not (pt_val (C8.pe_c c_are_same hr (by decide) rfl (pa_cons (pv 4) (pa_cons (pv 8) pa_nil))))))))))) (pss_one (ps_ret pe_bl)) pss_nil)
      (pss_one (ps_ret (pe_and (C8.pe_c c_are_near hr (by decide) rfl (pa_cons (pv 4) (pa_cons (pv 8) (pa_cons (pe_op op_sub (pe_ix (r := rIxL K) ix_list (pv 2) pe_int (fun _ _ => rfl)) (pe_callB (cr_min rfl) (by rfl) T.n_min (by decide +kernel) (pa_cons (pv 2) pa_nil))) pa_nil)))) (pe_one (C8.pe_c c_are_near hr (by decide) rfl (pa_cons (pv 6) (pa_cons (pv 10) (pa_cons (pe_op op_sub (pe_callB (cr_max rfl) (by rfl) T.n_max (by decide +kernel) (pa_cons (pv 2) pa_nil)) (pe_ix (r := rIxL K) ix_list (pv 2) pe_int (fun _ _ => rfl))) pa_nil))))))))))))), ?_⟩
  obtain ⟨G0, ds, P, k, rr, ⟨⟨a, l, s, r⟩, ⟨a2, l2, s2, r2⟩, hs, h0, hl, lo, hi, ⟨b1, b2, b3, b4⟩, hR, rfl, rfl⟩, q⟩ := h
  have S := S4.start (N := N_is_shift) k rr
  have hp : 0 < hs.length := (List.getElem?_eq_some_iff.mp hR.zero).1
  refine q_tup (js := [3, 4, 5, 6]) (ds := [.int a, .tup (dI l), .int s, .tup (dI r)]) (v_var (i := 0) rfl) rfl rfl S fun σ G H S => ?_
  refine q_tup (js := [7, 8, 9, 10]) (ds := [.int a2, .tup (dI l2), .int s2, .tup (dI r2)]) (v_var (i := 1) rfl) rfl rfl S fun σ G H S => ?_
  have two : ∀ i j : Int, Pl 2 (.tup [.int i, .int j]) := fun i j => Pl.ints (n := 1) (ns := [i, j]) (by simp)
  refine q_when (P := (· = !(decide (a = a2) && decide (s = s2)))) (EvBX.to (b_testx (v_neD (n := 2) (v_tupx (a_consx (v_var (i := 3) (d := .int a) rfl) (a_consx (v_var (i := 5) (d := .int s) rfl) a_nil)) (by simp)) (v_tupx (a_consx (v_var (i := 7) (d := .int a2) rfl) (a_consx (v_var (i := 9) (d := .int s2) rfl) a_nil)) (by simp)) (two _ _) (two _ _) (by omega))) (by rw [eqv_two])) S (fun e G H S => ?_) fun e G H S => ?_
  · refine g_ret (P := (· = .bl (shB (a, l, s, r) (a2, l2, s2, r2) lo hi (hl - h0)))) (EvX.to v_bl ?_) S q
    have e2 : (decide (a = a2) && decide (s = s2)) = false := (Bool.not_eq_true' _).mp e.symm
    unfold shB
    rw [e2]
    rfl
  have e2 : (decide (a = a2) && decide (s = s2)) = true := (Bool.not_eq_false' _).mp e.symm
  have ixh : ∀ {Γ : List (Option Dat)}, Γ[2]? = some (some (.lst (dI hs))) → EvX Wd0 K (tOp (rIxL K) (tVar 2) (tC (.int 0))) Γ (.int h0) := fun h => v_ixL (j := 0) (v_var h) v_int rfl (by rw [List.getElem?_map, hR.zero]; rfl)
  refine q_setx (d := .int (hl - h0)) (v_sub (v_lastL (ds := dI hs) (d := .int hl) (v_var (i := 2) rfl) (v_neg v_int) (by rw [List.length_map]; exact hp) (by rw [List.length_map, List.getElem?_map, hR.last]; rfl)) (ixh rfl)) S fun σ G H S => ?_
  have same : ∀ {Γ : List (Option Dat)} {i j : Nat} {E : XK} {l l2 : List Int}, Γ[i]? = some (some (.tup (dI l))) → Γ[j]? = some (some (.tup (dI l2))) → l.length ≤ 1000 → l2.length ≤ 1000 → EvBX Wd0 K (tNot (tB (tCall (spOf Wd0 K A_same) [] E (tCons (tVar i) (tCons (tVar j) tNil))))) Γ (!decide (l = l2)) := fun h1 h2 b1 b2 => b_notx (b_Bx (v_call0x (a_consx (v_var h1) (a_consx (v_var h2) a_nil)) ⟨_, _, b1, b2, rfl, rfl⟩))
  refine q_when (P := (· = ((decide (hl - h0 > 0) && !decide (r = r2)) || (decide (hl - h0 < 0) && !decide (l = l2))))) (b_orx (b_andx (b_testx (v_gt (v_var (i := 11) (d := .int (hl - h0)) rfl) v_int)) fun _ => same rfl rfl b2 b4) fun _ => b_andx (b_testx (v_lt (v_var (i := 11) (d := .int (hl - h0)) rfl) v_int)) fun _ => same rfl rfl b1 b3) S (fun e G H S => ?_) fun e G H S => ?_
  · refine g_ret (P := (· = .bl (shB (a, l, s, r) (a2, l2, s2, r2) lo hi (hl - h0)))) (EvX.to v_bl ?_) S q
    unfold shB
    rw [← e]
    simp
  · have near : ∀ {Γ : List (Option Dat)} {te : TE} {i j n : Nat} {E : XK} {l l2 : List Int}, Γ[i]? = some (some (.tup (dI l))) → Γ[j]? = some (some (.tup (dI l2))) → l.length ≤ 1000 → l2.length ≤ 1000 → EvX Wd0 K te Γ (.int (n : Int)) → EvX Wd0 K (tCall (spOf Wd0 K A_near) [] E (tCons (tVar i) (tCons (tVar j) (tCons te tNil)))) Γ (.bl (decide (Tu.strip (l.take n) = Tu.strip (l2.take n)))) := fun h1 h2 b1 b2 h => v_call0x (a_consx (v_var h1) (a_consx (v_var h2) (a_consx h a_nil))) ⟨_, _, _, b1, b2, rfl, rfl⟩
    have mn : ∀ {Γ : List (Option Dat)}, Γ[2]? = some (some (.lst (dI hs))) → EvX Wd0 K (tCB (rMin K) (tCons (tVar 2) tNil)) Γ (.int (h0 - (lo : Int))) := fun h => Ev.imp (v_minL (P := (· = h0 - (lo : Int))) (v_var h) hp fun m hm hle => by
      have z1 := hle _ hR.lo0
      have z2 := hR.lo1 m hm
      omega) fun d ⟨m, e, em⟩ => by rw [e, em]
    have mx : ∀ {Γ : List (Option Dat)}, Γ[2]? = some (some (.lst (dI hs))) → EvX Wd0 K (tCB (rMax K) (tCons (tVar 2) tNil)) Γ (.int (h0 + (hi : Int))) := fun h => Ev.imp (v_maxL (P := (· = h0 + (hi : Int))) (v_var h) hp fun m hm hle => by
      have z1 := hle _ hR.hi0
      have z2 := hR.hi1 m hm
      omega) fun d ⟨m, e, em⟩ => by rw [e, em]
    refine g_ret (P := (· = .bl (shB (a, l, s, r) (a2, l2, s2, r2) lo hi (hl - h0)))) (EvX.to (v_andx (near (n := lo) rfl rfl b1 b3 (EvX.to (v_sub (ixh rfl) (mn rfl)) (by congr 1; omega))) fun _ => near (n := hi) rfl rfl b2 b4 (EvX.to (v_sub (mx rfl) (ixh rfl)) (by congr 1; omega))) ?_) S q
    unfold shB
    rw [← e]
    show _ = Dat.bl ((decide (a = a2) && decide (s = s2)) && _)
    rw [e2]
    rfl
end
end K89

set_option maxHeartbeats 4000000
namespace K89
open PySem L2 Ly
/-! ## runs as data -/
theorem eqv_t (a b : TC) : PyData.eqv (toPy (tD a)) (toPy (tD b)) = decide (a = b) := by
  obtain ⟨q, l, s, r⟩ := a
  obtain ⟨q2, l2, s2, r2⟩ := b
  simp only [tD, Tu.cfD, toPy, toPys, PyData.eqv, PyData.eqvAll, eqvs_ints]
  by_cases h1 : q = q2 <;> by_cases h2 : l = l2 <;> by_cases h3 : s = s2 <;> by_cases h4 : r = r2 <;> simp [h1, h2, h3, h4]
theorem eqv_r (a b : RC) : PyData.eqv (toPy (rD a)) (toPy (rD b)) = decide (a = b) := by
  obtain ⟨q, l⟩ := a
  obtain ⟨q2, l2⟩ := b
  simp only [rD, toPy, toPys, PyData.eqv, PyData.eqvAll, eqvs_ints]
  by_cases h1 : q = q2
  · subst h1
    by_cases h2 : l = l2 <;> simp [h2]
  · have : ¬ (q : Int) = (q2 : Int) := by omega
    simp [h1, this]
structure TRun (st sy : Int) (rows : List (List Int)) (cs : List TC) : Prop where
  pos : 0 < cs.length
  len : cs.length ≤ 50
  cf : ∀ (i : Nat) (c : TC), cs[i]? = some c → Tu.Cf st sy (4 + i) c.1 c.2.1 c.2.2.1 c.2.2.2
  ru : ∀ (i : Nat) (c : TC), cs[i]? = some c → i + 1 < cs.length → ∃ w m f, Tu.ruleOf rows c.1 c.2.2.1 = some [c.1, c.2.2.1, w, m, f]
structure RRun (c : Nat) (xs : List (Str × List Int)) (cs : List RC) : Prop where
  pos : 0 < cs.length
  len : cs.length ≤ 50
  cf : ∀ (i : Nat) (r : RC), cs[i]? = some r → KR.Cf c r.1 xs r.2
def msOf (rows : List (List Int)) (cs : List TC) : List Int := (cs.take (cs.length - 1)).map (mvOf rows)
def esOf (xs : List (Str × List Int)) (cs : List RC) : List (Option Nat) := (cs.take (cs.length - 1)).map (empt xs)
def seg (ms : List Int) (i j : Nat) : List Int := ((heads ms).drop i).take (j + 1 - i)
def mnL (hs : List Int) (h0 : Int) : Int := hs.foldl min h0
def mxL (hs : List Int) (h0 : Int) : Int := hs.foldl max h0
def loS (ms : List Int) (i j : Nat) : Nat := (hd ms i - mnL (seg ms i j) (hd ms i)).toNat
def hiS (ms : List Int) (i j : Nat) : Nat := (mxL (seg ms i j) (hd ms i) - hd ms i).toNat
theorem mn_all : ∀ (xs : List Int) (m : Int), xs.foldl min m ≤ m ∧ (∀ y ∈ xs, xs.foldl min m ≤ y) ∧ (xs.foldl min m = m ∨ xs.foldl min m ∈ xs)
  | [], m => ⟨Int.le_refl _, (fun y h => nomatch h), .inl rfl⟩
  | x :: xs, m => by
    obtain ⟨h1, h2, h3⟩ := mn_all xs (min m x)
    rw [List.foldl_cons]
    refine ⟨by omega, fun y hy => ?_, ?_⟩
    · rcases List.mem_cons.mp hy with e | hy
      · rw [e]
        omega
      · exact h2 y hy
    · rcases h3 with h | h
      · rcases Int.le_total m x with z | z
        · exact .inl (by omega)
        · exact .inr (by rw [h, show min m x = x by omega]; exact List.mem_cons_self)
      · exact .inr (List.mem_cons_of_mem _ h)
theorem mx_all : ∀ (xs : List Int) (m : Int), m ≤ xs.foldl max m ∧ (∀ y ∈ xs, y ≤ xs.foldl max m) ∧ (xs.foldl max m = m ∨ xs.foldl max m ∈ xs)
  | [], m => ⟨Int.le_refl _, (fun y h => nomatch h), .inl rfl⟩
  | x :: xs, m => by
    obtain ⟨h1, h2, h3⟩ := mx_all xs (max m x)
    rw [List.foldl_cons]
    refine ⟨by omega, fun y hy => ?_, ?_⟩
    · rcases List.mem_cons.mp hy with e | hy
      · rw [e]
        omega
      · exact h2 y hy
    · rcases h3 with h | h
      · rcases Int.le_total m x with z | z
        · exact .inr (by rw [h, show max m x = x by omega]; exact List.mem_cons_self)
        · exact .inl (by omega)
      · exact .inr (List.mem_cons_of_mem _ h)
theorem seg_at {ms : List Int} {i j k : Nat} (h : i + k ≤ j) (hj : j ≤ ms.length) : (seg ms i j)[k]? = some (hd ms (i + k)) := by
  unfold seg
  rw [List.getElem?_take, if_pos (by omega), List.getElem?_drop, heads_at (by omega)]
theorem seg_len {ms : List Int} {i j : Nat} (h : i ≤ j) (hj : j ≤ ms.length) : (seg ms i j).length = j + 1 - i := by
  unfold seg
  rw [List.length_take, List.length_drop, heads_len]
  omega
theorem seg_reach {ms : List Int} {i j : Nat} (h : i ≤ j) (hj : j ≤ ms.length) : Reach (seg ms i j) (hd ms i) (hd ms j) (loS ms i j) (hiS ms i j) := by
  have z0 : (seg ms i j)[0]? = some (hd ms i) := seg_at (k := 0) (by omega) hj
  have hm := List.mem_of_getElem? z0
  obtain ⟨n1, n2, n3⟩ := mn_all (seg ms i j) (hd ms i)
  obtain ⟨x1, x2, x3⟩ := mx_all (seg ms i j) (hd ms i)
  have el : hd ms i - (loS ms i j : Int) = mnL (seg ms i j) (hd ms i) := by
    unfold loS mnL
    omega
  have eh : hd ms i + (hiS ms i j : Int) = mxL (seg ms i j) (hd ms i) := by
    unfold hiS mxL
    omega
  refine ⟨z0, ?_, ?_, ?_, ?_, ?_⟩
  · rw [seg_len h hj, seg_at (by omega) hj, show i + (j + 1 - i - 1) = j by omega]
  · rw [el]
    rcases n3 with e | e
    · unfold mnL
      rw [e]
      exact hm
    · exact e
  · rw [el]
    exact n2
  · rw [eh]
    rcases x3 with e | e
    · unfold mxL
      rw [e]
      exact hm
    · exact e
  · rw [eh]
    exact x2
def shP (rows : List (List Int)) (cs : List TC) (i j : Nat) : Bool := match cs[i]?, cs[j]? with
  | some a, some b => shB a b (loS (msOf rows cs) i j) (hiS (msOf rows cs) i j) (hd (msOf rows cs) j - hd (msOf rows cs) i)
  | _, _ => false
def grP (xs : List (Str × List Int)) (cs : List RC) (i j : Nat) : Bool := match cs[i]?, cs[j]? with
  | some a, some b => grB a b (((esOf xs cs).drop i).take (j - i))
  | _, _ => false
def sameAt {α : Type} [DecidableEq α] (cs : List α) (i j : Nat) : Bool := decide (cs[i]? = cs[j]?)
def A_named : Sig := fun ds P => ∃ (kind : Str) (rows : List Dat) (i j : Nat) (x y : Dat), rows[i]? = some x ∧ rows[j]? = some y ∧ Pl 3 x ∧ Pl 3 y ∧ ds = [.str kind, .lst rows, .int (i : Int), .int (j : Int)] ∧ P = (· = .tup [.str (if PyData.eqv (toPy x) (toPy y) = true then "repeat" else kind), .int (i : Int), .int (j : Int)])
def A_fsh (C : Addr) : Sig := fun ds P => ∃ (st sy : Int) (rows : List (List Int)) (fsd : List (Str × Dat)) (cs : List TC) (o : Option (Nat × Nat)), TRun st sy rows cs ∧ Tu.TurG st sy rows fsd ∧ Fst cs.length (shP rows cs) o ∧ ds = [.obj C fsd, .lst (cs.map tD)] ∧ P = (· = papD "shift" (sameAt cs) o)
def A_fgr (C : Addr) : Sig := fun ds P => ∃ (c : Nat) (xs : List (Str × List Int)) (cs : List RC) (o : Option (Nat × Nat)), RRun c xs cs ∧ Fst cs.length (grP xs cs) o ∧ ds = [.obj C (KR.regF c xs), .lst (cs.map rD)] ∧ P = (· = papD "growth" (sameAt cs) o)
def A_found (CT CR : Addr) : Sig := fun ds P => A_fsh CT ds P ∨ A_fgr CR ds P
theorem zip_all {us vs : List Int} (h : us.length = vs.length) (n : Nat) {x y : Int} (hx : us[n]? = some x) (hy : vs[n]? = some y) : (us.zip vs)[n]? = some (x, y) := by
  rw [List.getElem?_zip_eq_some]
  exact ⟨hx, hy⟩
theorem es_all (us vs : List Int) (es : List (Option Nat)) : (((es.filter Option.isSome).map fun e => match e with
    | none => true
    | some n => decide (us[n]? = vs[n]?)).all id) = es.all fun e => match e with
    | none => true
    | some n => decide (us[n]? = vs[n]?) := by
  induction es with
  | nil => rfl
  | cons e es ih =>
    cases e with
    | none => simpa using ih
    | some n =>
      rw [List.filter_cons_of_pos rfl, List.map_cons, List.all_cons, List.all_cons, ih]
      rfl
theorem pl_t {c : TC} (h1 : c.2.1.length ≤ 1000) (h2 : c.2.2.2.length ≤ 1000) : Pl 3 (tD c) := KT.pl_cf h1 h2
theorem pl_r {c : RC} (h : c.2.length ≤ 1000) : Pl 3 (rD c) := by
  rw [Pl, Pls, Pls, Pls, Pl]
  exact ⟨by simp, trivial, Pl.ints (n := 1) (by omega), trivial⟩
section
variable {P : Program} {w : World} {K : PySem.W.Frag} {mg : Str → Option Value} {base : Heap} {C_Turing C_Registers C_InvalidMachine C_BadArgument : Addr}
theorem ok_growth (D : Df K mg "_is_growth" s_is_growth) (T : Txt K w mg C_Turing C_Registers C_InvalidMachine C_BadArgument) : C8.Cal P w K mg base 1 "_is_growth" (spOf Wd0 K A_growth) [] := by
  refine cal_of D (fun _ _ _ _ _ _ us hl => match us, hl with | [_, _, _], _ => rfl) sc_is_growth (spOf_len (n := 3) fun _ _ ⟨_, _, _, _, _, _, _, e, _⟩ => by rw [e]; rfl) fun f cdv A outer s H0 vs Q E hr h => ⟨_, (pss_cons (ps_asg (pv 0) (pg_tup rfl (pgs_cons (pg_name (i := 3) sc_is_growth.nd rfl (by first | exact Or.inl rfl | exact Or.inr rfl)) (pgs_cons (pg_name (i := 4) sc_is_growth.nd rfl (by first | exact Or.inl rfl | exact Or.inr rfl)) pgs_nil))))
      (pss_cons (ps_asg (pv 1) (pg_tup rfl (pgs_cons (pg_name (i := 5) sc_is_growth.nd rfl (by first | exact Or.inl rfl | exact Or.inr rfl)) (pgs_cons (pg_name (i := 6) sc_is_growth.nd rfl (by first | exact Or.inl rfl | exact Or.inr rfl)) pgs_nil))))
      (pss_cons (ps_if (pt_cmpR op_ne (pv 3) (pv 5) (nomark _)) (pss_one (ps_ret pe_bl)) pss_nil)
      (pss_cons (ps_if (pt_not (pt_val (pe_callB (r := rAll K) (cr_all rfl) (by rfl) T.n_all (by decide +kernel) (pa_cons (pe_lc (own := [("value", 7), ("grown", 8)]) (g := gTup K 2 (gCons (gName 7) (gCons (gName 8) gNil))) (tt := tYes) rfl sc_is_growth.nd (RZ.pi_zipA rfl T.n_zip (pa_cons (pv 4) (pa_cons (pv 6) pa_nil))) (blkOk_by (N := N_is_growth) (sc := defScope s_is_growth) (by decide +kernel)) (fun _ _ _ _ _ => pg_tup rfl (pgs_cons (pg_name (i := 7) sc_is_growth.nd rfl (Or.inl rfl)) (pgs_cons (pg_name (i := 8) sc_is_growth.nd rfl (Or.inl rfl)) pgs_nil))) (fun _ _ _ _ _ => pts_nil) (fun _ _ _ _ _ => (pe_cmpR op_le (pv 7) (pv 8) (nomark _)))) pa_nil)))) (pss_one (ps_ret pe_bl)) pss_nil)
      (pss_one (ps_ret (pe_callB (r := rAll K) (cr_all rfl) (by rfl) T.n_all (by decide +kernel) (pa_cons (pe_lc (own := [("which", 9)]) (g := gName 9) rfl sc_is_growth.nd (pi_list (pv 2)) (blkOk_by (N := N_is_growth) (sc := defScope s_is_growth) (by decide +kernel)) (fun _ _ _ _ _ => pg_name (i := 9) sc_is_growth.nd rfl (Or.inl rfl)) (fun _ _ _ _ _ => pts_one (pt_cmp (pc_notN (pv 9)))) (fun _ _ _ _ _ => (pe_cmpR op_eq (pe_ix (r := rIxT K) ix_tup (pv 4) (pv 9) (fun _ _ => rfl)) (pe_ix (r := rIxT K) ix_tup (pv 6) (pv 9) (fun _ _ => rfl)) (nomark _)))) pa_nil)))))))), ?_⟩
  obtain ⟨G0, ds, P, k, rr, ⟨⟨p, us⟩, ⟨p2, us2⟩, es, hl, hb, hbe, hes, rfl, rfl⟩, q⟩ := h
  have S := S4.start (N := N_is_growth) k rr
  have hl : us.length = us2.length := hl
  have hb : us.length ≤ 1000 := hb
  have hes : ∀ n, some n ∈ es → n < us.length := hes
  refine q_tup (js := [3, 4]) (ds := [.int (p : Int), .tup (dI us)]) (v_var (i := 0) rfl) rfl rfl S fun σ G H S => ?_
  refine q_tup (js := [5, 6]) (ds := [.int (p2 : Int), .tup (dI us2)]) (v_var (i := 1) rfl) rfl rfl S fun σ G H S => ?_
  refine q_when (b_testx (v_neI (v_var (i := 3) (d := .int (p : Int)) rfl) (v_var (i := 5) (d := .int (p2 : Int)) rfl))) S (fun e G H S => ?_) fun e G H S => ?_
  · refine g_ret (P := (· = .bl (grB (p, us) (p2, us2) es))) (EvX.to v_bl ?_) S q
    have e2 : decide ((p : Int) = p2) = false := (Bool.not_eq_true' _).mp e.symm
    have e3 := of_decide_eq_false e2
    unfold grB
    show _ = Dat.bl (decide (p = p2) && _)
    rw [decide_eq_false (by omega)]
    rfl
  have ep : p = p2 := by
    have e2 : decide ((p : Int) = p2) = true := (Bool.not_eq_false' _).mp e.symm
    have := of_decide_eq_true e2
    omega
  subst ep
  refine q_when (P := (· = !((us.zip us2).all fun p => decide (p.1 ≤ p.2)))) (b_notx (b_Bx (EvX.to (v_all (bs := (us.zip us2).map fun p => decide (p.1 ≤ p.2)) (EvX.to (EvN.evx (n_lcZ (us := dI us) (vs := dI us2) (i := 7) (j := 8) (R := fun ds => ds = (us.zip us2).map fun p => Dat.bl (decide (p.1 ≤ p.2))) (by rw [List.length_map, List.length_map]; exact hl) (fun n ds => ds = ((us.zip us2).take n).map fun p => Dat.bl (decide (p.1 ≤ p.2))) (a_consx (v_var (i := 4) (d := .tup (dI us)) rfl) (a_consx (v_var (i := 6) (d := .tup (dI us2)) rfl) a_nil)) rfl (fun n x y hx hy => ?_) fun ds e => ?_) fun ds e => e) ?_)) ?_))) S (fun e G H S => ?_) fun e G H S => ?_
  · rw [List.getElem?_map] at hx hy
    obtain ⟨i, hi, rfl⟩ := Option.map_eq_some_iff.mp hx
    obtain ⟨j, hj, rfl⟩ := Option.map_eq_some_iff.mp hy
    refine tn_each (fun ds e => ?_) fun ds e => Ev.imp (v_le (i := i) (j := j) (v_var (i := 7) rfl) (v_var (i := 8) rfl)) fun d e2 => ?_
    · rw [e, List.length_map, List.length_take, List.length_zip]
      omega
    · rw [e, e2, List.take_succ, zip_all hl n hi hj]
      simp
  · rw [e, List.take_of_length_le]
    rw [List.length_zip, List.length_map]
    omega
  · rw [List.map_map]
    rfl
  · rw [List.all_map]
    rfl
  · refine g_ret (P := (· = .bl (grB (p, us) (p, us2) es))) (EvX.to v_bl ?_) S q
    have e2 : ((us.zip us2).all fun p => decide (p.1 ≤ p.2)) = false := (Bool.not_eq_true' _).mp e.symm
    unfold grB
    show _ = Dat.bl (_ && (((us.zip us2).all fun p => decide (p.1 ≤ p.2)) && _))
    rw [e2]
    simp
  · have e2 : ((us.zip us2).all fun p => decide (p.1 ≤ p.2)) = true := (Bool.not_eq_false' _).mp e.symm
    refine g_ret (P := (· = .bl (grB (p, us) (p, us2) es))) (EvX.to (v_all (bs := (es.filter Option.isSome).map fun e => match e with
      | none => true
      | some n => decide (us[n]? = us2[n]?)) (EvX.to (EvN.evx (n_lcLF (us := es) (f := oD) (p := Option.isSome) (g := fun e => Dat.bl (match e with
      | none => true
      | some n => decide (us[n]? = us2[n]?))) (v_var (i := 2) (d := .lst (es.map oD)) rfl) (by omega) (fun e he => ?_) fun e he hs => ?_) fun ds e => e) ?_)) ?_) S q
    · refine EvBX.to (b_testx (v_notNx (a := oD e) (v_var (i := 9) rfl))) ?_
      cases e <;> rfl
    · cases e with
      | none => cases hs
      | some n =>
        have hn : n < us.length := hes n he
        have h1 : us[n]? = some us[n] := List.getElem?_eq_getElem hn
        have h2 : us2[n]? = some us2[n] := List.getElem?_eq_getElem (by omega)
        refine EvX.to (v_eqI (v_ixT (ds := dI us) (j := n) (v_var (i := 4) rfl) (v_var (i := 9) (d := .int (n : Int)) rfl) rfl (by rw [List.getElem?_map, h1]; rfl)) (v_ixT (ds := dI us2) (j := n) (v_var (i := 6) rfl) (v_var (i := 9) (d := .int (n : Int)) rfl) rfl (by rw [List.getElem?_map, h2]; rfl))) ?_
        show _ = Dat.bl (decide (us[n]? = us2[n]?))
        rw [h1, h2]
        by_cases z : us[n] = us2[n] <;> simp [z]
    · rw [List.map_map]
      rfl
    · rw [es_all]
      unfold grB
      show _ = Dat.bl (decide (p = p) && (((us.zip us2).all fun p => decide (p.1 ≤ p.2)) && _))
      rw [e2, decide_eq_true rfl]
      rfl
theorem ok_named (D : Df K mg "_named" s_named) (T : Txt K w mg C_Turing C_Registers C_InvalidMachine C_BadArgument) : C8.Cal P w K mg base 1 "_named" (spOf Wd0 K A_named) [] := by
  refine cal_of D (fun _ _ _ _ _ _ us hl => match us, hl with | [_, _, _, _], _ => rfl) sc_named (spOf_len (n := 4) fun _ _ ⟨_, _, _, _, _, _, _, _, _, _, e, _⟩ => by rw [e]; rfl) fun f cdv A outer s H0 vs Q E hr h => ⟨_, (pss_cons (ps_if (pt_cmpR (op_eqD hr.units) (pe_ix (r := rIxL K) ix_list (pv 1) (pv 2) (fun _ _ => rfl)) (pe_ix (r := rIxL K) ix_list (pv 1) (pv 3) (fun _ _ => rfl)) (nomark _)) (pss_one (ps_ret (pe_tup (pa_cons pe_str (pa_cons (pv 2) (pa_cons (pv 3) pa_nil)))))) pss_nil)
      (pss_one (ps_ret (pe_tup (pa_cons (pv 0) (pa_cons (pv 2) (pa_cons (pv 3) pa_nil))))))), ?_⟩
  obtain ⟨G0, ds, P, k, rr, ⟨kind, rows, i, j, x, y, hx, hy, px, py, rfl, rfl⟩, q⟩ := h
  have S := S4.start (N := N_named) k rr
  refine q_when (b_testx (v_eqD (n := 3) (v_ixL (v_var (i := 1) (d := .lst rows) rfl) (v_var (i := 2) (d := .int (i : Int)) rfl) rfl hx) (v_ixL (v_var (i := 1) (d := .lst rows) rfl) (v_var (i := 3) (d := .int (j : Int)) rfl) rfl hy) px py (by omega))) S (fun e G H S => ?_) fun e G H S => ?_
  · rw [← e, if_pos rfl] at q
    exact g_ret (v_tupx (a_consx v_str (a_consx (v_var (i := 2) (d := .int (i : Int)) rfl) (a_consx (v_var (i := 3) (d := .int (j : Int)) rfl) a_nil))) (by simp)) S q
  · rw [← e, if_neg (by decide)] at q
    exact g_ret (v_tupx (a_consx (v_var (i := 0) (d := .str kind) rfl) (a_consx (v_var (i := 2) (d := .int (i : Int)) rfl) (a_consx (v_var (i := 3) (d := .int (j : Int)) rfl) a_nil))) (by simp)) S q
end
end K89

set_option maxHeartbeats 4000000
namespace K89
open PySem L2 Ly
theorem kb_non_bool : kitB "NoneType" "bool" = some false := by decide +kernel
theorem kb_non_int : kitB "NoneType" "int" = some false := by decide +kernel
theorem kb_non_str : kitB "NoneType" "str" = some false := by decide +kernel
theorem kb_non_tuple : kitB "NoneType" "tuple" = some false := by decide +kernel
theorem kb_non_list : kitB "NoneType" "list" = some false := by decide +kernel
theorem like_sG {K : PySem.W.Frag} {Γ : List (Option Dat)} {i : Nat} {d : Dat} {T : String} {c : Bool} (h : Γ[i]? = some (some d)) (ht : typed d = true) (hk : kitB (tyN d) T = some c) : EvBX Wd0 K (tB (tCB (rIsi K) (tCons (tVar i) (tCons (tC (.ty T)) tNil)))) Γ c := b_Bx (v_is h ht hk)
/-- of any two plain data: whether they are the same -/
def A_likeG (n : Nat) : Sig := fun ds P => ∃ a d b, Pl n a ∧ Pl n d ∧ (b = true ↔ a = d) ∧ ds = [a, d] ∧ P = (· = .bl b)
theorem bno {a d : Dat} {b : Bool} (hb : b = true ↔ a = d) (h : a ≠ d) : false = b := by
  cases b with
  | false => rfl
  | true => exact absurd (hb.mp rfl) h
theorem bis {p : Prop} [Decidable p] {a d : Dat} {b : Bool} (hb : b = true ↔ a = d) (h : p ↔ a = d) : decide p = b := by
  cases b with
  | false => exact decide_eq_false fun q => absurd (hb.mpr (h.mp q)) (by decide)
  | true => exact decide_eq_true (h.mpr (hb.mp rfl))
theorem lk_no {K : PySem.W.Frag} {Γ : List (Option Dat)} {a : Dat} {T : String} {te : TE} (h0 : Γ[0]? = some (some a)) (ht : typed a = true) (hk : kitB (tyN a) T = some false) : EvX Wd0 K (tAndV (tCB (rIsi K) (tCons (tVar 0) (tCons (tC (.ty T)) tNil))) te) Γ (.bl false) := EvX.to (v_andx (b := false) (v_is h0 ht hk) fun h => nomatch h) rfl
theorem isN_b {a : Dat} {b : Bool} (hb : b = true ↔ a = .non) : isN a = b := by
  cases b with
  | true =>
    rw [hb.mp rfl]
    rfl
  | false =>
    cases a with
    | non => exact absurd (hb.mpr rfl) (by decide)
    | _ => rfl
open Classical in
noncomputable def lkF (as es : List Dat) (i : Nat) : Bool := decide (as[i]? = es[i]?)
open Classical in
theorem lk_iff {as es : List Dat} {i : Nat} : lkF as es i = true ↔ as[i]? = es[i]? := by
  unfold lkF
  exact decide_eq_true_iff
theorem lk_all {as es : List Dat} (hl : as.length = es.length) : (((List.range es.length).map (lkF as es)).all id) = true ↔ as = es := by
  rw [List.all_eq_true]
  constructor
  · intro h
    apply List.ext_getElem?
    intro i
    rcases Nat.lt_or_ge i es.length with hi | hi
    · have := h (lkF as es i) (List.mem_map.mpr ⟨i, List.mem_range.mpr hi, rfl⟩)
      exact lk_iff.mp this
    · rw [List.getElem?_eq_none hi, List.getElem?_eq_none (by omega)]
  · rintro rfl x hx
    obtain ⟨i, _, rfl⟩ := List.mem_map.mp hx
    exact lk_iff.mpr rfl
theorem lk_is {as es : List Dat} {i : Nat} {x y : Dat} (h1 : as[i]? = some x) (h2 : es[i]? = some y) : lkF as es i = true ↔ x = y := by
  rw [lk_iff, h1, h2]
  exact ⟨fun h => by cases h; rfl, fun h => by rw [h]⟩
theorem lk_range (as es : List Dat) (i : Nat) : ((List.range (i + 1)).map (lkF as es)).map Dat.bl = ((List.range i).map (lkF as es)).map Dat.bl ++ [.bl (lkF as es i)] := by
  rw [List.range_succ, List.map_append, List.map_append]
  rfl
theorem b_of {b c : Bool} {p : Prop} (h1 : b = true ↔ p) (h2 : c = true ↔ p) : c = b := by
  cases b <;> cases c
  · rfl
  · exact absurd (h1.mpr (h2.mp rfl)) (by decide)
  · exact absurd (h2.mpr (h1.mp rfl)) (by decide)
  · rfl
section
variable {P : Program} {w : World} {K : PySem.W.Frag} {mg : Str → Option Value} {base : Heap} {C_Turing C_Registers C_InvalidMachine C_BadArgument : Addr}
theorem ok_likeG0 (D : Df K mg "_law_like" s_law_like) (T : Txt K w mg C_Turing C_Registers C_InvalidMachine C_BadArgument) : C8.Cal P w K mg base 1 "_law_like" (spOf Wd0 K (A_likeG 0)) [] := by
  refine cal_of D (fun _ _ _ _ _ _ us hl => match us, hl with | [_, _], _ => rfl) sc_law_like (spOf_len (n := 2) fun _ _ ⟨_, _, _, _, _, _, e, _⟩ => by rw [e]; rfl) fun f cdv A outer s H0 vs Q E hr h => ⟨_, (pss_cons (ps_if (pt_cmp (pc_isN (pv 1))) (pss_one (ps_ret (pe_cmp (pc_isN (pv 0))))) pss_nil)
      (pss_cons (ps_if (pt_val (pe_callB (r := rIsi K) call_isi (by rfl) T.n_isinstance (by decide +kernel) (pa_cons (pv 1) (pa_cons (pe_bltn (v := .ty "bool") rfl T.n_bool (by decide +kernel) rfl) pa_nil)))) (pss_one (ps_ret (pe_and (pe_callB (r := rIsi K) call_isi (by rfl) T.n_isinstance (by decide +kernel) (pa_cons (pv 0) (pa_cons (pe_bltn (v := .ty "bool") rfl T.n_bool (by decide +kernel) rfl) pa_nil))) (pe_one (pe_cmpR op_eq (pv 0) (pv 1) (nomark _)))))) pss_nil)
      (pss_cons (ps_if (pt_val (pe_callB (r := rIsi K) call_isi (by rfl) T.n_isinstance (by decide +kernel) (pa_cons (pv 1) (pa_cons (pe_bltn (v := .ty "str") rfl T.n_str (by decide +kernel) rfl) pa_nil)))) (pss_one (ps_ret (pe_and (pe_callB (r := rIsi K) call_isi (by rfl) T.n_isinstance (by decide +kernel) (pa_cons (pv 0) (pa_cons (pe_bltn (v := .ty "str") rfl T.n_str (by decide +kernel) rfl) pa_nil))) (pe_one (pe_cmpR op_eq (pv 0) (pv 1) (nomark _)))))) pss_nil)
      (pss_cons (ps_if (pt_val (pe_callB (r := rIsi K) call_isi (by rfl) T.n_isinstance (by decide +kernel) (pa_cons (pv 1) (pa_cons (pe_bltn (v := .ty "int") rfl T.n_int (by decide +kernel) rfl) pa_nil)))) (pss_one (ps_ret (pe_and (pe_callB (r := rIsi K) call_isi (by rfl) T.n_isinstance (by decide +kernel) (pa_cons (pv 0) (pa_cons (pe_bltn (v := .ty "int") rfl T.n_int (by decide +kernel) rfl) pa_nil))) (pe_and (pe_not (pe_callB (r := rIsi K) call_isi (by rfl) T.n_isinstance (by decide +kernel) (pa_cons (pv 0) (pa_cons (pe_bltn (v := .ty "bool") rfl T.n_bool (by decide +kernel) rfl) pa_nil)))) (pe_one (pe_cmpR op_eq (pv 0) (pv 1) (nomark _))))))) pss_nil)
      (pss_cons (ps_if (PW.pt (pw_or (pt_cmpR op_ne (pe_callB (r := rIsi K) call_isi (by rfl) T.n_isinstance (by decide +kernel) (pa_cons (pv 1) (pa_cons (pe_bltn (v := .ty "list") rfl T.n_list (by decide +kernel) rfl) pa_nil))) (pe_callB (r := rIsi K) call_isi (by rfl) T.n_isinstance (by decide +kernel) (pa_cons (pv 0) (pa_cons (pe_bltn (v := .ty "list") rfl T.n_list (by decide +kernel) rfl) pa_nil))) (nomark _)) (pw_or1 (pt_cmpR op_ne (pe_callB (r := rIsi K) call_isi (by rfl) T.n_isinstance (by decide +kernel) (pa_cons (pv 1) (pa_cons (pe_bltn (v := .ty "tuple") rfl T.n_tuple (by decide +kernel) rfl) pa_nil))) (pe_callB (r := rIsi K) call_isi (by rfl) T.n_isinstance (by decide +kernel) (pa_cons (pv 0) (pa_cons (pe_bltn (v := .ty "tuple") rfl T.n_tuple (by decide +kernel) rfl) pa_nil))) (nomark _))))) (pss_one (ps_ret pe_bl)) pss_nil)
      (pss_cons (ps_if (pt_cmpR op_ne (pe_callB (r := Ly.rLen K) call_len_seq (by rfl) T.n_len PySem.boot_len (pa_cons (pv 0) pa_nil)) (pe_callB (r := Ly.rLen K) call_len_seq (by rfl) T.n_len PySem.boot_len (pa_cons (pv 1) pa_nil)) (nomark _)) (pss_one (ps_ret pe_bl)) pss_nil)
      pss_never)))))), ?_⟩
  obtain ⟨G0, ds, P, k, r, ⟨a, d, b, pa, pd, hb, rfl, rfl⟩, q⟩ := h
  have S := S4.start (N := N_law_like) k r
  cases d with
  | non => exact q_when (b_Bx (v_isNx (v_var (i := 1) (d := .non) rfl))) S (fun _ G H S => g_ret (P := (· = .bl b)) (EvX.to (v_isNx (v_var (i := 0) (d := a) rfl)) (congrArg Dat.bl (isN_b hb))) S q) (fun e => nomatch e)
  | bl x =>
    refine q_when (b_Bx (v_isNx (v_var (i := 1) (d := (.bl x)) rfl))) S (fun e => nomatch e) fun _ G H S => ?_
    refine q_when (like_sG (i := 1) (d := (.bl x)) (c := true) rfl rfl kb_bool_bool) S (fun _ G H S => ?_) (fun e => nomatch e)
    cases a with
    | non => exact g_ret (EvX.to (lk_no (a := .non) rfl rfl kb_non_bool) (congrArg Dat.bl (bno hb (by intro h; cases h)))) S q
    | bl y => exact g_ret (EvX.to (v_andx (v_is (i := 0) (d := (.bl y)) (c := true) rfl rfl kb_bool_bool) fun _ => v_eqB (v_var (i := 0) (d := (.bl y)) rfl) (v_var (i := 1) (d := (.bl x)) rfl)) (congrArg Dat.bl (bis (p := y = x) hb ⟨fun h => by rw [h], fun h => by cases h; rfl⟩))) S q
    | int y => exact g_ret (EvX.to (lk_no (a := (.int y)) rfl rfl kb_int_bool) (congrArg Dat.bl (bno hb (by intro h; cases h)))) S q
    | str y => exact g_ret (EvX.to (lk_no (a := (.str y)) rfl rfl kb_str_bool) (congrArg Dat.bl (bno hb (by intro h; cases h)))) S q
    | _ => simp [Pl] at pa
  | str x =>
    refine q_when (b_Bx (v_isNx (v_var (i := 1) (d := (.str x)) rfl))) S (fun e => nomatch e) fun _ G H S => ?_
    refine q_when (like_sG (i := 1) (d := (.str x)) (c := false) rfl rfl kb_str_bool) S (fun e => nomatch e) fun _ G H S => ?_
    refine q_when (like_sG (i := 1) (d := (.str x)) (c := true) rfl rfl kb_str_str) S (fun _ G H S => ?_) (fun e => nomatch e)
    cases a with
    | non => exact g_ret (EvX.to (lk_no (a := .non) rfl rfl kb_non_str) (congrArg Dat.bl (bno hb (by intro h; cases h)))) S q
    | bl y => exact g_ret (EvX.to (lk_no (a := (.bl y)) rfl rfl kb_bool_str) (congrArg Dat.bl (bno hb (by intro h; cases h)))) S q
    | int y => exact g_ret (EvX.to (lk_no (a := (.int y)) rfl rfl kb_int_str) (congrArg Dat.bl (bno hb (by intro h; cases h)))) S q
    | str y => exact g_ret (EvX.to (v_andx (v_is (i := 0) (d := (.str y)) (c := true) rfl rfl kb_str_str) fun _ => v_eqS (v_var (i := 0) (d := (.str y)) rfl) (v_var (i := 1) (d := (.str x)) rfl)) (congrArg Dat.bl (bis (p := y = x) hb ⟨fun h => by rw [h], fun h => by cases h; rfl⟩))) S q
    | _ => simp [Pl] at pa
  | int x =>
    refine q_when (b_Bx (v_isNx (v_var (i := 1) (d := (.int x)) rfl))) S (fun e => nomatch e) fun _ G H S => ?_
    refine q_when (like_sG (i := 1) (d := (.int x)) (c := false) rfl rfl kb_int_bool) S (fun e => nomatch e) fun _ G H S => ?_
    refine q_when (like_sG (i := 1) (d := (.int x)) (c := false) rfl rfl kb_int_str) S (fun e => nomatch e) fun _ G H S => ?_
    refine q_when (like_sG (i := 1) (d := (.int x)) (c := true) rfl rfl kb_int_int) S (fun _ G H S => ?_) (fun e => nomatch e)
    cases a with
    | non => exact g_ret (EvX.to (lk_no (a := .non) rfl rfl kb_non_int) (congrArg Dat.bl (bno hb (by intro h; cases h)))) S q
    | bl y => exact g_ret (EvX.to (v_andx (v_is (i := 0) (d := .bl y) (c := true) rfl rfl kb_bool_int) fun _ => v_andx (b := false) (v_notx (v_is (i := 0) (d := .bl y) (c := true) rfl rfl kb_bool_bool)) fun h => nomatch h) (congrArg Dat.bl (bno hb (by intro h; cases h)))) S q
    | int y => exact g_ret (EvX.to (v_andx (v_is (i := 0) (d := (.int y)) (c := true) rfl rfl kb_int_int) fun _ => v_andx (v_notx (v_is (i := 0) (d := (.int y)) (c := false) rfl rfl kb_int_bool)) fun _ => v_eqI (v_var (i := 0) (d := (.int y)) rfl) (v_var (i := 1) (d := (.int x)) rfl)) (congrArg Dat.bl (bis (p := y = x) hb ⟨fun h => by rw [h], fun h => by cases h; rfl⟩))) S q
    | str y => exact g_ret (EvX.to (lk_no (a := (.str y)) rfl rfl kb_str_int) (congrArg Dat.bl (bno hb (by intro h; cases h)))) S q
    | _ => simp [Pl] at pa
  | _ => simp [Pl] at pd
theorem ok_likeGS {n : Nat} (D : Df K mg "_law_like" s_law_like) (T : Txt K w mg C_Turing C_Registers C_InvalidMachine C_BadArgument) (c_law_like : C8.Cal P w K mg base (n + 1) "_law_like" (spOf Wd0 K (A_likeG n)) []) : C8.Cal P w K mg base (n + 2) "_law_like" (spOf Wd0 K (A_likeG (n + 1))) [] := by
  refine cal_of D (fun _ _ _ _ _ _ us hl => match us, hl with | [_, _], _ => rfl) sc_law_like (spOf_len (n := 2) fun _ _ ⟨_, _, _, _, _, _, e, _⟩ => by rw [e]; rfl) fun f cdv A outer s H0 vs Q E hr h => ⟨_, (pss_cons (ps_if (pt_cmp (pc_isN (pv 1))) (pss_one (ps_ret (pe_cmp (pc_isN (pv 0))))) pss_nil)
      (pss_cons (ps_if (pt_val (pe_callB (r := rIsi K) call_isi (by rfl) T.n_isinstance (by decide +kernel) (pa_cons (pv 1) (pa_cons (pe_bltn (v := .ty "bool") rfl T.n_bool (by decide +kernel) rfl) pa_nil)))) (pss_one (ps_ret (pe_and (pe_callB (r := rIsi K) call_isi (by rfl) T.n_isinstance (by decide +kernel) (pa_cons (pv 0) (pa_cons (pe_bltn (v := .ty "bool") rfl T.n_bool (by decide +kernel) rfl) pa_nil))) (pe_one (pe_cmpR op_eq (pv 0) (pv 1) (nomark _)))))) pss_nil)
      (pss_cons (ps_if (pt_val (pe_callB (r := rIsi K) call_isi (by rfl) T.n_isinstance (by decide +kernel) (pa_cons (pv 1) (pa_cons (pe_bltn (v := .ty "str") rfl T.n_str (by decide +kernel) rfl) pa_nil)))) (pss_one (ps_ret (pe_and (pe_callB (r := rIsi K) call_isi (by rfl) T.n_isinstance (by decide +kernel) (pa_cons (pv 0) (pa_cons (pe_bltn (v := .ty "str") rfl T.n_str (by decide +kernel) rfl) pa_nil))) (pe_one (pe_cmpR op_eq (pv 0) (pv 1) (nomark _)))))) pss_nil)
      (pss_cons (ps_if (pt_val (pe_callB (r := rIsi K) call_isi (by rfl) T.n_isinstance (by decide +kernel) (pa_cons (pv 1) (pa_cons (pe_bltn (v := .ty "int") rfl T.n_int (by decide +kernel) rfl) pa_nil)))) (pss_one (ps_ret (pe_and (pe_callB (r := rIsi K) call_isi (by rfl) T.n_isinstance (by decide +kernel) (pa_cons (pv 0) (pa_cons (pe_bltn (v := .ty "int") rfl T.n_int (by decide +kernel) rfl) pa_nil))) (pe_and (pe_not (pe_callB (r := rIsi K) call_isi (by rfl) T.n_isinstance (by decide +kernel) (pa_cons (pv 0) (pa_cons (pe_bltn (v := .ty "bool") rfl T.n_bool (by decide +kernel) rfl) pa_nil)))) (pe_one (pe_cmpR op_eq (pv 0) (pv 1) (nomark _))))))) pss_nil)
      (pss_cons (ps_if (PW.pt (pw_or (pt_cmpR op_ne (pe_callB (r := rIsi K) call_isi (by rfl) T.n_isinstance (by decide +kernel) (pa_cons (pv 1) (pa_cons (pe_bltn (v := .ty "list") rfl T.n_list (by decide +kernel) rfl) pa_nil))) (pe_callB (r := rIsi K) call_isi (by rfl) T.n_isinstance (by decide +kernel) (pa_cons (pv 0) (pa_cons (pe_bltn (v := .ty "list") rfl T.n_list (by decide +kernel) rfl) pa_nil))) (nomark _)) (pw_or1 (pt_cmpR op_ne (pe_callB (r := rIsi K) call_isi (by rfl) T.n_isinstance (by decide +kernel) (pa_cons (pv 1) (pa_cons (pe_bltn (v := .ty "tuple") rfl T.n_tuple (by decide +kernel) rfl) pa_nil))) (pe_callB (r := rIsi K) call_isi (by rfl) T.n_isinstance (by decide +kernel) (pa_cons (pv 0) (pa_cons (pe_bltn (v := .ty "tuple") rfl T.n_tuple (by decide +kernel) rfl) pa_nil))) (nomark _))))) (pss_one (ps_ret pe_bl)) pss_nil)
      (pss_cons (ps_if (pt_cmpR op_ne (pe_callB (r := Ly.rLen K) call_len_seq (by rfl) T.n_len PySem.boot_len (pa_cons (pv 0) pa_nil)) (pe_callB (r := Ly.rLen K) call_len_seq (by rfl) T.n_len PySem.boot_len (pa_cons (pv 1) pa_nil)) (nomark _)) (pss_one (ps_ret pe_bl)) pss_nil)
      (pss_one (ps_ret (pe_callB (r := rAll K) (cr_all rfl) (by rfl) T.n_all (by decide +kernel) (pa_cons (pe_lc (own := [("k", 2)]) (g := gName 2) (tt := tYes) rfl sc_law_like.nd (pi_range1 rfl T.n_range (pa_cons (pe_callB (r := Ly.rLen K) call_len_seq (by rfl) T.n_len PySem.boot_len (pa_cons (pv 1) pa_nil)) pa_nil)) (blkOk_by (N := N_law_like) (sc := defScope s_law_like) (by decide +kernel)) (fun _ _ _ _ _ => pg_name (i := 2) sc_law_like.nd rfl (Or.inl rfl)) (fun _ _ _ _ _ => pts_nil) (fun _ _ _ _ _ => (C8.pe_c c_law_like hr (Nat.le_refl _) rfl (pa_cons (pe_ix (r := rIx K) ix_seq (pv 0) (pv 2) (fun _ _ => rfl)) (pa_cons (pe_ix (r := rIx K) ix_seq (pv 1) (pv 2) (fun _ _ => rfl)) pa_nil))))) pa_nil)))))))))), ?_⟩
  obtain ⟨G0, ds, P, k, r, ⟨a, d, b, pa, pd, hb, rfl, rfl⟩, q⟩ := h
  have S := S4.start (N := N_law_like) k r
  cases d with
  | non => exact q_when (b_Bx (v_isNx (v_var (i := 1) (d := .non) rfl))) S (fun _ G H S => g_ret (P := (· = .bl b)) (EvX.to (v_isNx (v_var (i := 0) (d := a) rfl)) (congrArg Dat.bl (isN_b hb))) S q) (fun e => nomatch e)
  | bl x =>
    refine q_when (b_Bx (v_isNx (v_var (i := 1) (d := (.bl x)) rfl))) S (fun e => nomatch e) fun _ G H S => ?_
    refine q_when (like_sG (i := 1) (d := (.bl x)) (c := true) rfl rfl kb_bool_bool) S (fun _ G H S => ?_) (fun e => nomatch e)
    cases a with
    | non => exact g_ret (EvX.to (lk_no (a := .non) rfl rfl kb_non_bool) (congrArg Dat.bl (bno hb (by intro h; cases h)))) S q
    | bl y => exact g_ret (EvX.to (v_andx (v_is (i := 0) (d := (.bl y)) (c := true) rfl rfl kb_bool_bool) fun _ => v_eqB (v_var (i := 0) (d := (.bl y)) rfl) (v_var (i := 1) (d := (.bl x)) rfl)) (congrArg Dat.bl (bis (p := y = x) hb ⟨fun h => by rw [h], fun h => by cases h; rfl⟩))) S q
    | int y => exact g_ret (EvX.to (lk_no (a := (.int y)) rfl rfl kb_int_bool) (congrArg Dat.bl (bno hb (by intro h; cases h)))) S q
    | str y => exact g_ret (EvX.to (lk_no (a := (.str y)) rfl rfl kb_str_bool) (congrArg Dat.bl (bno hb (by intro h; cases h)))) S q
    | tup us => exact g_ret (EvX.to (lk_no (a := (.tup us)) rfl rfl kb_tuple_bool) (congrArg Dat.bl (bno hb (by intro h; cases h)))) S q
    | lst us => exact g_ret (EvX.to (lk_no (a := (.lst us)) rfl rfl kb_list_bool) (congrArg Dat.bl (bno hb (by intro h; cases h)))) S q
    | adr _ => cases n <;> simp [Pl] at pa
    | obj _ _ => cases n <;> simp [Pl] at pa
    | dct _ => cases n <;> simp [Pl] at pa
    | dcs _ => cases n <;> simp [Pl] at pa
  | str x =>
    refine q_when (b_Bx (v_isNx (v_var (i := 1) (d := (.str x)) rfl))) S (fun e => nomatch e) fun _ G H S => ?_
    refine q_when (like_sG (i := 1) (d := (.str x)) (c := false) rfl rfl kb_str_bool) S (fun e => nomatch e) fun _ G H S => ?_
    refine q_when (like_sG (i := 1) (d := (.str x)) (c := true) rfl rfl kb_str_str) S (fun _ G H S => ?_) (fun e => nomatch e)
    cases a with
    | non => exact g_ret (EvX.to (lk_no (a := .non) rfl rfl kb_non_str) (congrArg Dat.bl (bno hb (by intro h; cases h)))) S q
    | bl y => exact g_ret (EvX.to (lk_no (a := (.bl y)) rfl rfl kb_bool_str) (congrArg Dat.bl (bno hb (by intro h; cases h)))) S q
    | int y => exact g_ret (EvX.to (lk_no (a := (.int y)) rfl rfl kb_int_str) (congrArg Dat.bl (bno hb (by intro h; cases h)))) S q
    | str y => exact g_ret (EvX.to (v_andx (v_is (i := 0) (d := (.str y)) (c := true) rfl rfl kb_str_str) fun _ => v_eqS (v_var (i := 0) (d := (.str y)) rfl) (v_var (i := 1) (d := (.str x)) rfl)) (congrArg Dat.bl (bis (p := y = x) hb ⟨fun h => by rw [h], fun h => by cases h; rfl⟩))) S q
    | tup us => exact g_ret (EvX.to (lk_no (a := (.tup us)) rfl rfl kb_tuple_str) (congrArg Dat.bl (bno hb (by intro h; cases h)))) S q
    | lst us => exact g_ret (EvX.to (lk_no (a := (.lst us)) rfl rfl kb_list_str) (congrArg Dat.bl (bno hb (by intro h; cases h)))) S q
    | adr _ => cases n <;> simp [Pl] at pa
    | obj _ _ => cases n <;> simp [Pl] at pa
    | dct _ => cases n <;> simp [Pl] at pa
    | dcs _ => cases n <;> simp [Pl] at pa
  | int x =>
    refine q_when (b_Bx (v_isNx (v_var (i := 1) (d := (.int x)) rfl))) S (fun e => nomatch e) fun _ G H S => ?_
    refine q_when (like_sG (i := 1) (d := (.int x)) (c := false) rfl rfl kb_int_bool) S (fun e => nomatch e) fun _ G H S => ?_
    refine q_when (like_sG (i := 1) (d := (.int x)) (c := false) rfl rfl kb_int_str) S (fun e => nomatch e) fun _ G H S => ?_
    refine q_when (like_sG (i := 1) (d := (.int x)) (c := true) rfl rfl kb_int_int) S (fun _ G H S => ?_) (fun e => nomatch e)
    cases a with
    | non => exact g_ret (EvX.to (lk_no (a := .non) rfl rfl kb_non_int) (congrArg Dat.bl (bno hb (by intro h; cases h)))) S q
    | bl y => exact g_ret (EvX.to (v_andx (v_is (i := 0) (d := .bl y) (c := true) rfl rfl kb_bool_int) fun _ => v_andx (b := false) (v_notx (v_is (i := 0) (d := .bl y) (c := true) rfl rfl kb_bool_bool)) fun h => nomatch h) (congrArg Dat.bl (bno hb (by intro h; cases h)))) S q
    | int y => exact g_ret (EvX.to (v_andx (v_is (i := 0) (d := (.int y)) (c := true) rfl rfl kb_int_int) fun _ => v_andx (v_notx (v_is (i := 0) (d := (.int y)) (c := false) rfl rfl kb_int_bool)) fun _ => v_eqI (v_var (i := 0) (d := (.int y)) rfl) (v_var (i := 1) (d := (.int x)) rfl)) (congrArg Dat.bl (bis (p := y = x) hb ⟨fun h => by rw [h], fun h => by cases h; rfl⟩))) S q
    | str y => exact g_ret (EvX.to (lk_no (a := (.str y)) rfl rfl kb_str_int) (congrArg Dat.bl (bno hb (by intro h; cases h)))) S q
    | tup us => exact g_ret (EvX.to (lk_no (a := (.tup us)) rfl rfl kb_tuple_int) (congrArg Dat.bl (bno hb (by intro h; cases h)))) S q
    | lst us => exact g_ret (EvX.to (lk_no (a := (.lst us)) rfl rfl kb_list_int) (congrArg Dat.bl (bno hb (by intro h; cases h)))) S q
    | adr _ => cases n <;> simp [Pl] at pa
    | obj _ _ => cases n <;> simp [Pl] at pa
    | dct _ => cases n <;> simp [Pl] at pa
    | dcs _ => cases n <;> simp [Pl] at pa
  | tup es =>
    refine q_when (b_Bx (v_isNx (v_var (i := 1) (d := (.tup es)) rfl))) S (fun e => nomatch e) fun _ G H S => ?_
    refine q_when (like_sG (i := 1) (d := (.tup es)) (c := false) rfl rfl kb_tuple_bool) S (fun e => nomatch e) fun _ G H S => ?_
    refine q_when (like_sG (i := 1) (d := (.tup es)) (c := false) rfl rfl kb_tuple_str) S (fun e => nomatch e) fun _ G H S => ?_
    refine q_when (like_sG (i := 1) (d := (.tup es)) (c := false) rfl rfl kb_tuple_int) S (fun e => nomatch e) fun _ G H S => ?_
    cases a with
    | non =>
      exact q_when (EvBX.to (b_orx (b_testx (v_neB (v_is (i := 1) (d := (.tup es)) (c := false) rfl rfl kb_tuple_list) (v_is (i := 0) (d := .non) (c := false) rfl rfl kb_non_list))) fun _ => b_testx (v_neB (v_is (i := 1) (d := (.tup es)) (c := true) rfl rfl kb_tuple_tuple) (v_is (i := 0) (d := .non) (c := false) rfl rfl kb_non_tuple))) (b := true) (by simp)) S (fun _ G H S => g_ret (P := (· = .bl b)) (EvX.to v_bl (congrArg Dat.bl (bno hb (by intro h; cases h)))) S q) (fun e => nomatch e)
    | bl y =>
      exact q_when (EvBX.to (b_orx (b_testx (v_neB (v_is (i := 1) (d := (.tup es)) (c := false) rfl rfl kb_tuple_list) (v_is (i := 0) (d := (.bl y)) (c := false) rfl rfl kb_bool_list))) fun _ => b_testx (v_neB (v_is (i := 1) (d := (.tup es)) (c := true) rfl rfl kb_tuple_tuple) (v_is (i := 0) (d := (.bl y)) (c := false) rfl rfl kb_bool_tuple))) (b := true) (by simp)) S (fun _ G H S => g_ret (P := (· = .bl b)) (EvX.to v_bl (congrArg Dat.bl (bno hb (by intro h; cases h)))) S q) (fun e => nomatch e)
    | int y =>
      exact q_when (EvBX.to (b_orx (b_testx (v_neB (v_is (i := 1) (d := (.tup es)) (c := false) rfl rfl kb_tuple_list) (v_is (i := 0) (d := (.int y)) (c := false) rfl rfl kb_int_list))) fun _ => b_testx (v_neB (v_is (i := 1) (d := (.tup es)) (c := true) rfl rfl kb_tuple_tuple) (v_is (i := 0) (d := (.int y)) (c := false) rfl rfl kb_int_tuple))) (b := true) (by simp)) S (fun _ G H S => g_ret (P := (· = .bl b)) (EvX.to v_bl (congrArg Dat.bl (bno hb (by intro h; cases h)))) S q) (fun e => nomatch e)
    | str y =>
      exact q_when (EvBX.to (b_orx (b_testx (v_neB (v_is (i := 1) (d := (.tup es)) (c := false) rfl rfl kb_tuple_list) (v_is (i := 0) (d := (.str y)) (c := false) rfl rfl kb_str_list))) fun _ => b_testx (v_neB (v_is (i := 1) (d := (.tup es)) (c := true) rfl rfl kb_tuple_tuple) (v_is (i := 0) (d := (.str y)) (c := false) rfl rfl kb_str_tuple))) (b := true) (by simp)) S (fun _ G H S => g_ret (P := (· = .bl b)) (EvX.to v_bl (congrArg Dat.bl (bno hb (by intro h; cases h)))) S q) (fun e => nomatch e)
    | tup us =>
      rw [Pl] at pa pd
      refine q_when (EvBX.to (b_orx (b_testx (v_neB (v_is (i := 1) (d := (.tup es)) (c := false) rfl rfl kb_tuple_list) (v_is (i := 0) (d := (.tup us)) (c := false) rfl rfl kb_tuple_list))) fun _ => b_testx (v_neB (v_is (i := 1) (d := (.tup es)) (c := true) rfl rfl kb_tuple_tuple) (v_is (i := 0) (d := (.tup us)) (c := true) rfl rfl kb_tuple_tuple))) (b := false) (by simp)) S (fun e => nomatch e) fun _ G H S => ?_
      refine q_when (b_testx (v_neI (v_lenT (v_var (i := 0) (d := (.tup us)) rfl)) (v_lenT (v_var (i := 1) (d := (.tup es)) rfl)))) S (fun e G H S => g_ret (P := (· = .bl b)) (EvX.to v_bl (congrArg Dat.bl (bno hb (by rintro h; cases h; simp at e)))) S q) fun e G H S => ?_
      have hl : us.length = es.length := by simp at e; omega
      refine g_ret (P := (· = .bl b)) ?_ S q
      refine EvX.to (v_all (bs := (List.range es.length).map (lkF us es)) (EvN.evx (R := (· = ((List.range es.length).map (lkF us es)).map Dat.bl)) (n_lcR (fun _ i ds => ds = ((List.range i).map (lkF us es)).map Dat.bl) (EvA.imp (a_consx (v_lenT (v_var (i := 1) (d := (.tup es)) rfl)) a_nil) fun ds e => ⟨_, e, ⟨by omega, by have := pd.1; omega⟩, rfl, fun i hi => ?_, fun ds e => by rw [e, Int.toNat_natCast]⟩)) fun ds e => e)) (congrArg Dat.bl (b_of hb ((lk_all hl).trans ⟨fun h => by rw [h], fun h => by cases h; rfl⟩)))
      have hlt : i < es.length := by omega
      have hy : es[i]? = some es[i] := List.getElem?_eq_getElem hlt
      have hx : us[i]? = some (us[i]'(by omega)) := List.getElem?_eq_getElem (by omega)
      refine tn_each (fun ds e => by rw [e, List.length_map, List.length_map, List.length_range]; have := pd.1; omega) fun ds e => ?_
      refine Ev.imp (v_call0x (P := (· = .bl (lkF us es i))) (a_consx (v_ixDT (v_var rfl) (v_var rfl) rfl hx) (a_consx (v_ixDT (v_var rfl) (v_var rfl) rfl hy) a_nil)) ⟨_, _, lkF us es i, pa.2.get hx, pd.2.get hy, lk_is hx hy, rfl, rfl⟩) fun d ed => ?_
      rw [e, ed]
      exact (lk_range us es i).symm
    | lst us =>
      exact q_when (EvBX.to (b_orx (b_testx (v_neB (v_is (i := 1) (d := (.tup es)) (c := false) rfl rfl kb_tuple_list) (v_is (i := 0) (d := (.lst us)) (c := true) rfl rfl kb_list_list))) fun _ => b_testx (v_neB (v_is (i := 1) (d := (.tup es)) (c := true) rfl rfl kb_tuple_tuple) (v_is (i := 0) (d := (.lst us)) (c := false) rfl rfl kb_list_tuple))) (b := true) (by simp)) S (fun _ G H S => g_ret (P := (· = .bl b)) (EvX.to v_bl (congrArg Dat.bl (bno hb (by intro h; cases h)))) S q) (fun e => nomatch e)
    | adr _ => cases n <;> simp [Pl] at pa
    | obj _ _ => cases n <;> simp [Pl] at pa
    | dct _ => cases n <;> simp [Pl] at pa
    | dcs _ => cases n <;> simp [Pl] at pa
  | lst es =>
    refine q_when (b_Bx (v_isNx (v_var (i := 1) (d := (.lst es)) rfl))) S (fun e => nomatch e) fun _ G H S => ?_
    refine q_when (like_sG (i := 1) (d := (.lst es)) (c := false) rfl rfl kb_list_bool) S (fun e => nomatch e) fun _ G H S => ?_
    refine q_when (like_sG (i := 1) (d := (.lst es)) (c := false) rfl rfl kb_list_str) S (fun e => nomatch e) fun _ G H S => ?_
    refine q_when (like_sG (i := 1) (d := (.lst es)) (c := false) rfl rfl kb_list_int) S (fun e => nomatch e) fun _ G H S => ?_
    cases a with
    | non =>
      exact q_when (EvBX.to (b_orx (b_testx (v_neB (v_is (i := 1) (d := (.lst es)) (c := true) rfl rfl kb_list_list) (v_is (i := 0) (d := .non) (c := false) rfl rfl kb_non_list))) fun _ => b_testx (v_neB (v_is (i := 1) (d := (.lst es)) (c := false) rfl rfl kb_list_tuple) (v_is (i := 0) (d := .non) (c := false) rfl rfl kb_non_tuple))) (b := true) (by simp)) S (fun _ G H S => g_ret (P := (· = .bl b)) (EvX.to v_bl (congrArg Dat.bl (bno hb (by intro h; cases h)))) S q) (fun e => nomatch e)
    | bl y =>
      exact q_when (EvBX.to (b_orx (b_testx (v_neB (v_is (i := 1) (d := (.lst es)) (c := true) rfl rfl kb_list_list) (v_is (i := 0) (d := (.bl y)) (c := false) rfl rfl kb_bool_list))) fun _ => b_testx (v_neB (v_is (i := 1) (d := (.lst es)) (c := false) rfl rfl kb_list_tuple) (v_is (i := 0) (d := (.bl y)) (c := false) rfl rfl kb_bool_tuple))) (b := true) (by simp)) S (fun _ G H S => g_ret (P := (· = .bl b)) (EvX.to v_bl (congrArg Dat.bl (bno hb (by intro h; cases h)))) S q) (fun e => nomatch e)
    | int y =>
      exact q_when (EvBX.to (b_orx (b_testx (v_neB (v_is (i := 1) (d := (.lst es)) (c := true) rfl rfl kb_list_list) (v_is (i := 0) (d := (.int y)) (c := false) rfl rfl kb_int_list))) fun _ => b_testx (v_neB (v_is (i := 1) (d := (.lst es)) (c := false) rfl rfl kb_list_tuple) (v_is (i := 0) (d := (.int y)) (c := false) rfl rfl kb_int_tuple))) (b := true) (by simp)) S (fun _ G H S => g_ret (P := (· = .bl b)) (EvX.to v_bl (congrArg Dat.bl (bno hb (by intro h; cases h)))) S q) (fun e => nomatch e)
    | str y =>
      exact q_when (EvBX.to (b_orx (b_testx (v_neB (v_is (i := 1) (d := (.lst es)) (c := true) rfl rfl kb_list_list) (v_is (i := 0) (d := (.str y)) (c := false) rfl rfl kb_str_list))) fun _ => b_testx (v_neB (v_is (i := 1) (d := (.lst es)) (c := false) rfl rfl kb_list_tuple) (v_is (i := 0) (d := (.str y)) (c := false) rfl rfl kb_str_tuple))) (b := true) (by simp)) S (fun _ G H S => g_ret (P := (· = .bl b)) (EvX.to v_bl (congrArg Dat.bl (bno hb (by intro h; cases h)))) S q) (fun e => nomatch e)
    | tup us =>
      exact q_when (EvBX.to (b_orx (b_testx (v_neB (v_is (i := 1) (d := (.lst es)) (c := true) rfl rfl kb_list_list) (v_is (i := 0) (d := (.tup us)) (c := false) rfl rfl kb_tuple_list))) fun _ => b_testx (v_neB (v_is (i := 1) (d := (.lst es)) (c := false) rfl rfl kb_list_tuple) (v_is (i := 0) (d := (.tup us)) (c := true) rfl rfl kb_tuple_tuple))) (b := true) (by simp)) S (fun _ G H S => g_ret (P := (· = .bl b)) (EvX.to v_bl (congrArg Dat.bl (bno hb (by intro h; cases h)))) S q) (fun e => nomatch e)
    | lst us =>
      rw [Pl] at pa pd
      refine q_when (EvBX.to (b_orx (b_testx (v_neB (v_is (i := 1) (d := (.lst es)) (c := true) rfl rfl kb_list_list) (v_is (i := 0) (d := (.lst us)) (c := true) rfl rfl kb_list_list))) fun _ => b_testx (v_neB (v_is (i := 1) (d := (.lst es)) (c := false) rfl rfl kb_list_tuple) (v_is (i := 0) (d := (.lst us)) (c := false) rfl rfl kb_list_tuple))) (b := false) (by simp)) S (fun e => nomatch e) fun _ G H S => ?_
      refine q_when (b_testx (v_neI (v_lenL (v_var (i := 0) (d := (.lst us)) rfl)) (v_lenL (v_var (i := 1) (d := (.lst es)) rfl)))) S (fun e G H S => g_ret (P := (· = .bl b)) (EvX.to v_bl (congrArg Dat.bl (bno hb (by rintro h; cases h; simp at e)))) S q) fun e G H S => ?_
      have hl : us.length = es.length := by simp at e; omega
      refine g_ret (P := (· = .bl b)) ?_ S q
      refine EvX.to (v_all (bs := (List.range es.length).map (lkF us es)) (EvN.evx (R := (· = ((List.range es.length).map (lkF us es)).map Dat.bl)) (n_lcR (fun _ i ds => ds = ((List.range i).map (lkF us es)).map Dat.bl) (EvA.imp (a_consx (v_lenL (v_var (i := 1) (d := (.lst es)) rfl)) a_nil) fun ds e => ⟨_, e, ⟨by omega, by have := pd.1; omega⟩, rfl, fun i hi => ?_, fun ds e => by rw [e, Int.toNat_natCast]⟩)) fun ds e => e)) (congrArg Dat.bl (b_of hb ((lk_all hl).trans ⟨fun h => by rw [h], fun h => by cases h; rfl⟩)))
      have hlt : i < es.length := by omega
      have hy : es[i]? = some es[i] := List.getElem?_eq_getElem hlt
      have hx : us[i]? = some (us[i]'(by omega)) := List.getElem?_eq_getElem (by omega)
      refine tn_each (fun ds e => by rw [e, List.length_map, List.length_map, List.length_range]; have := pd.1; omega) fun ds e => ?_
      refine Ev.imp (v_call0x (P := (· = .bl (lkF us es i))) (a_consx (v_ixDL (v_var rfl) (v_var rfl) rfl hx) (a_consx (v_ixDL (v_var rfl) (v_var rfl) rfl hy) a_nil)) ⟨_, _, lkF us es i, pa.2.get hx, pd.2.get hy, lk_is hx hy, rfl, rfl⟩) fun d ed => ?_
      rw [e, ed]
      exact (lk_range us es i).symm
    | adr _ => cases n <;> simp [Pl] at pa
    | obj _ _ => cases n <;> simp [Pl] at pa
    | dct _ => cases n <;> simp [Pl] at pa
    | dcs _ => cases n <;> simp [Pl] at pa
  | adr _ => cases n <;> simp [Pl] at pd
  | obj _ _ => cases n <;> simp [Pl] at pd
  | dct _ => cases n <;> simp [Pl] at pd
  | dcs _ => cases n <;> simp [Pl] at pd
theorem ok_likeG (D : Df K mg "_law_like" s_law_like) (T : Txt K w mg C_Turing C_Registers C_InvalidMachine C_BadArgument) : ∀ n, C8.Cal P w K mg base (n + 1) "_law_like" (spOf Wd0 K (A_likeG n)) []
  | 0 => ok_likeG0 D T
  | n + 1 => ok_likeGS D T (ok_likeG D T n)
end

def A_cell : Sig := fun ds P => ∃ (sc : List Int) (k : Nat), sc.length ≤ 63 ∧ ds = [.lst (dI sc), .int (k : Int)] ∧ P = fun d => ∃ c, d = .int c ∧ 0 ≤ c
def A_draws : Sig := fun ds P => ∃ c n : Int, 0 ≤ c ∧ 0 ≤ n ∧ n ≤ 1000 ∧ ds = [.int c, .int n] ∧ P = fun d => ∃ ns, d = .lst (dI ns) ∧ (ns.length : Int) = n ∧ InB 4096 ns
section
variable {P : Program} {w : World} {K : PySem.W.Frag} {mg : Str → Option Value} {base : Heap} {C_Turing C_Registers C_InvalidMachine C_BadArgument : Addr}
theorem ok_draws (D : Df K mg "_law_draws" s_law_draws) (T : Txt K w mg C_Turing C_Registers C_InvalidMachine C_BadArgument) : C8.Cal P w K mg base 1 "_law_draws" (spOf Wd0 K A_draws) [] := by
  refine cal_of D (fun _ _ _ _ _ _ us hl => match us, hl with | [_, _], _ => rfl) sc_law_draws (spOf_len (n := 2) fun _ _ ⟨_, _, _, _, _, e, _⟩ => by rw [e]; rfl) fun f cdv A outer s H0 vs Q E hr h => ⟨_, (pss_cons (ps_set (i := 2) sc_law_draws.nd rfl (by first | exact Or.inl rfl | exact Or.inr rfl) (pe_lst pa_nil))
      (pss_cons (ps_set (i := 3) sc_law_draws.nd rfl (by first | exact Or.inl rfl | exact Or.inr rfl) (pv 0))
      (pss_cons (ps_for PassesOwn.never rfl (pi_range1 rfl T.n_range (pa_cons (pv 1) pa_nil)) (pg_name (i := 4) sc_law_draws.nd rfl (by first | exact Or.inl rfl | exact Or.inr rfl))
        (pss_one (ps_if (PW.pt (pw_and (pt_cmpR op_ge (pv 0) (pe_op op_pow pe_int pe_int) (nomark _)) (pw_and1 (pt_cmpR op_gt (pv 3) pe_int (nomark _))))) (pss_cons (ps_expr (pe_bm PySem.F.plainAttrs_list PySem.F.slot_list_append PySem.F.type_list_append mt_append (pv 2) (pa_cons (pe_op op_mod (pe_callTy call_int1 (by rfl) T.n_int (by decide +kernel) (pa_cons (pv 3) pa_nil)) pe_int) pa_nil)))
      (pss_one (ps_set (i := 3) sc_law_draws.nd rfl (by first | exact Or.inl rfl | exact Or.inr rfl) (pe_op op_fdiv (pv 3) pe_int)))) (pss_cons (ps_set (i := 5) sc_law_draws.nd rfl (by first | exact Or.inl rfl | exact Or.inr rfl) (pe_op op_mod (pe_callTy call_int1 (by rfl) T.n_int (by decide +kernel) (pa_cons (pe_op op_add (pe_op op_mul (pv 0) pe_int) (pe_op op_mul (pe_op op_add (pv 4) pe_int) pe_int)) pa_nil)) pe_int))
      (pss_cons (ps_set (i := 5) sc_law_draws.nd rfl (by first | exact Or.inl rfl | exact Or.inr rfl) (pe_op op_mod (pe_callTy call_int1 (by rfl) T.n_int (by decide +kernel) (pa_cons (pe_op op_add (pe_op op_add (pe_op op_mul (pv 5) (pv 5)) (pe_op op_mul (pv 5) pe_int)) (pe_op op_mul (pv 4) pe_int)) pa_nil)) pe_int))
      (pss_cons (ps_set (i := 5) sc_law_draws.nd rfl (by first | exact Or.inl rfl | exact Or.inr rfl) (pe_op op_mod (pe_callTy call_int1 (by rfl) T.n_int (by decide +kernel) (pa_cons (pe_op op_add (pe_op op_add (pe_op op_mul (pv 5) (pv 5)) (pv 0)) (pe_op op_mul pe_int (pv 4))) pa_nil)) pe_int))
      (pss_one (ps_expr (pe_bm PySem.F.plainAttrs_list PySem.F.slot_list_append PySem.F.type_list_append mt_append (pv 2) (pa_cons (pe_op op_mod (pe_op op_fdiv (pv 5) pe_int) pe_int) pa_nil))))))))))
      (pss_one (ps_ret (pv 2)))))), ?_⟩
  obtain ⟨G0, ds, P, k, r, ⟨c, n, hc, hn, hn2, rfl, rfl⟩, q⟩ := h
  have S := S4.start (N := N_law_draws) k r
  refine q_setN (P := (· = [])) (n_lst a_nil fun ds e => by rw [e]; simp) S fun l ds σ G H e S => ?_
  subst e
  refine q_setx (v_var rfl) S fun σ G H S => ?_
  refine q_for1 (a_consx (v_var rfl) a_nil) (by omega) S (fun i Γ O => ∃ (ns : List Int) (x : Int) (z4 z5 : Option Dat), O = [(l, dI ns)] ∧ Γ = [some (.int c), some (.int n), some (.adr l), some (.int x), z4, z5] ∧ ns.length = i ∧ InB 4096 ns) ⟨[], c, none, none, rfl, rfl, rfl, fun _ h => nomatch h⟩ ?_ ?_ (by omega)
  · rintro i Γ O σ G H hi ⟨ns, x, z4, z5, rfl, rfl, hl, hb⟩ S
    have add : ∀ m : Int, 0 ≤ m → m < 4096 → InB 4096 (ns ++ [m]) := fun m h0 h1 y hy => by
      rcases List.mem_append.mp hy with z | z
      · exact hb y z
      · rw [List.mem_singleton.mp z]
        exact ⟨h0, h1⟩
    refine g_if (P := fun _ => True) (EvB.imp (b_andx (b_testx (v_ge (v_var rfl) (v_pow v_int v_int ⟨by omega, by omega, by decide⟩))) fun _ => b_testx (v_gt (v_var rfl) v_int)) fun _ _ => trivial) S (fun _ G H S => ?_) (fun _ G H S => ?_)
    · refine q_app (P := (· = .int (x % 4096))) (v_var rfl) (v_mod (v_int1 (v_var rfl)) v_int (by omega)) S (by rw [List.length_map]; omega) fun d G H e S => ?_
      subst e
      refine g_setx (v_fdiv (v_var rfl) v_int ⟨by omega, by omega⟩) S fun σ G H S => ?_
      exact ⟨_, _, _, ⟨ns ++ [x % 4096], _, _, _, by simp, rfl, by rw [List.length_append, hl]; rfl, add _ (Int.emod_nonneg _ (by omega)) (Int.emod_lt_of_pos _ (by omega))⟩, S⟩
    · refine q_setx (v_mod (v_int1 (v_add (v_mul (v_var rfl) v_int (.inr ⟨by omega, by omega⟩)) (v_mul (v_add (v_var rfl) v_int) v_int (.inr ⟨by omega, by omega⟩)))) v_int (by omega)) S fun σ G H S => ?_
      generalize hm : (c * 48271 + ((i : Int) + 1) * 69621) % 2147483647 = m at S
      have m0 : 0 ≤ m := hm ▸ Int.emod_nonneg _ (by omega)
      have m1 : m < 2147483647 := hm ▸ Int.emod_lt_of_pos _ (by omega)
      refine q_setx (v_mod (v_int1 (v_add (v_add (v_mul (v_var rfl) (v_var rfl) (.inl ⟨by omega, by omega⟩)) (v_mul (v_var rfl) v_int (.inr ⟨by omega, by omega⟩))) (v_mul (v_var rfl) v_int (.inr ⟨by omega, by omega⟩)))) v_int (by omega)) S fun σ G H S => ?_
      generalize hm2 : (m * m + m * 16807 + (i : Int) * 7919) % 2147483629 = m2 at S
      have m20 : 0 ≤ m2 := hm2 ▸ Int.emod_nonneg _ (by omega)
      have m21 : m2 < 2147483629 := hm2 ▸ Int.emod_lt_of_pos _ (by omega)
      refine q_setx (v_mod (v_int1 (v_add (v_add (v_mul (v_var rfl) (v_var rfl) (.inl ⟨by omega, by omega⟩)) (v_var rfl)) (v_mul v_int (v_var rfl) (.inl ⟨by omega, by omega⟩)))) v_int (by omega)) S fun σ G H S => ?_
      generalize hm3 : (m2 * m2 + c + 13 * (i : Int)) % 2147483587 = m3 at S
      refine g_app (P := (· = .int (m3 / 7 % 4096))) (v_var rfl) (v_mod (v_fdiv (v_var rfl) v_int ⟨by omega, by omega⟩) v_int (by omega)) S (by rw [List.length_map]; omega) fun d G H e S => ?_
      subst e
      exact ⟨_, _, _, ⟨ns ++ [m3 / 7 % 4096], x, _, _, by simp, rfl, by rw [List.length_append, hl]; rfl, add _ (Int.emod_nonneg _ (by omega)) (Int.emod_lt_of_pos _ (by omega))⟩, S⟩
  · rintro Γ O σ G H ⟨ns, x, z4, z5, rfl, rfl, hl, hb⟩ S
    obtain ⟨G, S⟩ := S4.keep (i := 2) rfl S
    exact g_ret (P := fun d => ∃ ns, d = .lst (dI ns) ∧ (ns.length : Int) = n ∧ InB 4096 ns) (EvX.any (v_var rfl) ⟨ns, rfl, by omega, hb⟩) S q
end

end K89

set_option maxHeartbeats 4000000
namespace K89
open PySem L2 Ly
/-! ## machines of any kind, their runs -/
structure Mc (K : PySem.W.Frag) (L : ClsL) where
  C : Addr
  fsd : List (Str × Dat)
  A : Sig
  R : Dat → Dat → Prop
  ok : Nat → Dat → Prop
  mem : (C, spOf Wd0 K A) ∈ L
  look : fsd.lookup ("step" : Str) = none
  one : ∀ {d e e2 : Dat}, R d e → R d e2 → e = e2
  tot : ∀ {n : Nat} {d : Dat}, n ≤ 15 → ok n d → ∃ e, R d e
  stp : ∀ {n : Nat} {d : Dat}, n ≤ 15 → ok n d → A [.obj C fsd, d] (R d)
  nxt : ∀ {n : Nat} {d e : Dat}, n ≤ 15 → ok n d → R d e → e = .non ∨ (isN e = false ∧ (n < 15 → ok (n + 1) e))
abbrev Mc.D {K : PySem.W.Frag} {L : ClsL} (M : Mc K L) : Dat := .obj M.C M.fsd
section
variable {K : PySem.W.Frag} {L : ClsL} {M : Mc K L} {d x c e : Dat} {k i : Nat} {rows : List Dat}
/-- a run from d of at most k steps, x its last configuration -/
structure Full (M : Mc K L) (d : Dat) (k : Nat) (rows : List Dat) (x : Dat) : Prop where
  zero : rows[0]? = some d
  ok : ∀ (i : Nat) (y : Dat), rows[i]? = some y → M.ok i y
  nx : ∀ (i : Nat) (y z : Dat), rows[i]? = some y → rows[i + 1]? = some z → M.R y z ∧ isN z = false
  len : rows.length ≤ k + 1
  last : rows[rows.length - 1]? = some x
  fin : rows.length ≤ k → M.R x .non
theorem Full.pos (h : Full M d k rows x) : 0 < rows.length := by
  have := h.zero
  cases rows with
  | nil => simp at this
  | cons a r => simp
theorem Full.next (h : Full M d k rows x) (hc : rows[i]? = some c) (hi : i < k) (he : M.R c e) : (e = .non ∧ c = x ∧ i + 1 = rows.length) ∨ (isN e = false ∧ rows[i + 1]? = some e) := by
  have hlt : i < rows.length := (List.getElem?_eq_some_iff.mp hc).1
  rcases Nat.lt_or_ge (i + 1) rows.length with h1 | h1
  · have hy : rows[i + 1]? = some rows[i + 1] := List.getElem?_eq_getElem h1
    obtain ⟨r, n⟩ := h.nx i c _ hc hy
    have ee := M.one he r
    subst ee
    exact .inr ⟨n, hy⟩
  · have hl : i + 1 = rows.length := by omega
    have hx := h.last
    rw [show rows.length - 1 = i by omega, hc] at hx
    cases hx
    exact .inl ⟨M.one he (h.fin (by omega)), rfl, hl⟩
theorem Full.end' (h : Full M d k rows x) (hc : rows[k]? = some c) : c = x ∧ rows.length = k + 1 := by
  have hlt : k < rows.length := (List.getElem?_eq_some_iff.mp hc).1
  have hl := h.len
  have hx := h.last
  rw [show rows.length - 1 = k by omega, hc] at hx
  cases hx
  exact ⟨rfl, by omega⟩
theorem Full.ex (hk : k ≤ 15) (h0 : M.ok 0 d) : ∃ rows x, Full M d k rows x := by
  induction k with
  | zero => exact ⟨[d], d, rfl, fun i y hy => by cases i with
      | zero => cases hy; exact h0
      | succ i => simp at hy, fun i y z hy hz => by simp at hz, by simp, rfl, fun h => absurd h (by simp)⟩
  | succ k ih =>
    obtain ⟨rows, x, h⟩ := ih (by omega)
    have hp := h.pos
    have hl := h.len
    rcases Nat.lt_or_ge rows.length (k + 1) with h1 | h1
    · exact ⟨rows, x, h.zero, h.ok, h.nx, by omega, h.last, fun _ => h.fin (by omega)⟩
    · have he : rows.length - 1 = k := by omega
      have hx := h.last
      have hox := h.ok _ _ hx
      rw [he] at hox hx
      obtain ⟨e, r⟩ := M.tot (by omega) hox
      rcases M.nxt (by omega) hox r with rfl | ⟨hn, ho⟩
      · exact ⟨rows, x, h.zero, h.ok, h.nx, by omega, h.last, fun _ => r⟩
      · refine ⟨rows ++ [e], e, ?_, fun i y hy => ?_, fun i y z hy hz => ?_, by simp; omega, by simp, fun z => ?_⟩
        · rw [List.getElem?_append_left hp]
          exact h.zero
        · rcases Nat.lt_or_ge i rows.length with h2 | h2
          · rw [List.getElem?_append_left h2] at hy
            exact h.ok i y hy
          · have hi : i < (rows ++ [e]).length := (List.getElem?_eq_some_iff.mp hy).1
            rw [List.length_append] at hi
            simp at hi
            have ei : i = rows.length := by omega
            rw [ei, List.getElem?_append_right (Nat.le_refl _)] at hy
            simp at hy
            subst hy
            rw [ei, show rows.length = k + 1 by omega]
            exact ho (by omega)
        · have hi : i + 1 < (rows ++ [e]).length := (List.getElem?_eq_some_iff.mp hz).1
          rw [List.length_append] at hi
          simp at hi
          rw [List.getElem?_append_left (by omega)] at hy
          rcases Nat.lt_or_ge (i + 1) rows.length with h2 | h2
          · rw [List.getElem?_append_left h2] at hz
            exact h.nx i y z hy hz
          · have ei : i = k := by omega
            rw [show i + 1 = rows.length by omega, List.getElem?_append_right (Nat.le_refl _)] at hz
            simp at hz
            subst hz
            rw [ei, hx] at hy
            cases hy
            exact ⟨r, hn⟩
        · rw [List.length_append] at z
          simp at z
          omega
end
/-! ## after, history, length, last -/
def X_neg (CB : Addr) : XSig := fun ds o => ∃ n : Int, ds = [.int n] ∧ o = if n < 0 then .err CB none else .val (· = .non)
def X_run (K : PySem.W.Frag) (L : ClsL) (CB : Addr) (F : Nat → List Dat → Dat → Bool → Out) : XSig := fun ds o => ∃ (M : Mc K L) (d : Dat) (n : Int), ds = [M.D, d, .int n] ∧
  ((n < 0 ∧ o = .err CB none) ∨ ∃ (k : Nat) (rows : List Dat) (x : Dat) (h : Bool), n = (k : Int) ∧ k ≤ 15 ∧ Full M d k rows x ∧ (h = true ↔ M.R x .non) ∧ o = F k rows x h)
def F_after (_ : Nat) (_ : List Dat) (x : Dat) (_ : Bool) : Out := .val (· = x)
def F_hist (_ : Nat) (rows : List Dat) (_ : Dat) (_ : Bool) : Out := .val (· = .lst rows)
section
variable {P : Program} {w : World} {K : PySem.W.Frag} {mg : Str → Option Value} {base : Heap} {C_Turing C_Registers C_InvalidMachine C_BadArgument : Addr}
variable {L : ClsL}
theorem ok_neg (D : Df K mg "refuse_negative" s_refuse_negative) (T : Txt K w mg C_Turing C_Registers C_InvalidMachine C_BadArgument) : CalX P w K mg base 1 "refuse_negative" (spX Wd0 K (X_neg C_BadArgument)) := by
  refine calx_of D (fun _ _ _ _ _ _ us hl => match us, hl with | [_], _ => rfl) sc_refuse_negative (spX_len (n := 1) fun _ _ ⟨_, e, _⟩ => by rw [e]; rfl) fun f cdv A outer s H0 vs Q E hr h => ⟨_, (pss_one (ps_if (pt_cmpR op_lt (pv 0) pe_int (nomark _)) (pss_one (ps_raiseEN rfl (L2N.takes_of rfl rfl rfl rfl) T.e_BadArgument rfl)) pss_nil)), ?_⟩
  obtain ⟨G0, ds, o, k, r, ⟨n, rfl, rfl⟩, q⟩ := h
  have S := S4.start (N := N_refuse_negative) k r
  refine g_if (b_testx (v_lt (v_var (d := .int n) rfl) v_int)) S (fun e G H S => ?_) fun e G H S => ?_
  · rw [if_pos (of_decide_eq_true e.symm)] at q
    exact out_raise q S
  · rw [if_neg (of_decide_eq_false e.symm)] at q
    exact out_val q S rfl .non
theorem ok_after (D : Df K mg "after" s_after) (T : Txt K w mg C_Turing C_Registers C_InvalidMachine C_BadArgument) (c_refuse_negative : CalX P w K mg base 1 "refuse_negative" (spX Wd0 K (X_neg C_BadArgument))) (c_P_step : MetP P w K mg base 4 "step" L) : CalX P w K mg base 5 "after" (spX Wd0 K (X_run K L C_BadArgument F_after)) := by
  refine calx_of D (fun _ _ _ _ _ _ us hl => match us, hl with | [_, _, _], _ => rfl) sc_after (spX_len (n := 3) fun _ _ ⟨_, _, _, e, _⟩ => by rw [e]; rfl) fun f cdv A outer s H0 vs Q E hr h => ⟨_, (pss_cons (ps_expr (pe_cXP c_refuse_negative hr (by decide) (L2N.takes_of rfl rfl rfl rfl) rfl (pa_cons (pv 2) pa_nil)))
      (Evl.pss_cut (ps_for (passes_of rfl) rfl (pi_range1 rfl T.n_range (pa_cons (pv 2) pa_nil)) (pg_name (i := 3) sc_after.nd rfl (by first | exact Or.inl rfl | exact Or.inr rfl))
        (pss_cons (ps_set (i := 4) sc_after.nd rfl (by first | exact Or.inl rfl | exact Or.inr rfl) (pe_mP c_P_step hr (by decide) (pv 0) (pa_cons (pv 1) pa_nil)))
      (pss_cons (ps_if (pt_cmp (pc_isN (pv 4))) (pss_one ps_break) pss_nil)
      (pss_one (ps_set (i := 1) sc_after.nd rfl (by first | exact Or.inl rfl | exact Or.inr rfl) (pv 4))))))
      (pss_one (ps_ret (pv 1))))), ?_⟩
  obtain ⟨G0, ds, o, kk, r, ⟨M, d, n, rfl, hc⟩, q⟩ := h
  have S := S4.start (N := N_after) kk r
  rcases hc with ⟨hn, rfl⟩ | ⟨k, rows, x, h, rfl, hk, hF, hh, rfl⟩
  · refine q_dropP (o := .err C_BadArgument none) (a_consx (v_var rfl) a_nil) ⟨n, rfl, (if_pos hn).symm⟩ S (fun _ e => nomatch e) (fun C fs e d G H S h1 h2 => ?_)
    cases e
    exact q d G H S.stp h1 h2
  · refine q_dropP (o := .val (· = .non)) (a_consx (v_var rfl) a_nil) ⟨(k : Int), rfl, (if_neg (by omega)).symm⟩ S (fun _ _ G H S => ?_) (fun _ _ e => nomatch e)
    refine q_cut (Word Wd0 K G0 G0 H0 fun Γ O => O = [] ∧ Γ[1]? = some (some x)) ?_ ?_
    · refine g_for1 (n := (k : Int)) (a_consx (v_var rfl) a_nil) (by omega) S (fun i Γ O => O = [] ∧ ∃ c z1 z2, Γ = [some M.D, some c, some (.int (k : Int)), z1, z2] ∧ rows[i]? = some c) ⟨rfl, d, none, none, rfl, hF.zero⟩ ?_ ?_ (by omega)
      · rintro i Γ O σ G H hi ⟨rfl, c, z1, z2, rfl, hcc⟩ S
        have hok := hF.ok i c hcc
        refine q_set (P := M.R c) (v_methP M.mem (v_var (i := 0) (d := M.D) rfl) M.look (a_consx (v_var (i := 1) (d := c) rfl) a_nil) fun ds e => by subst e; exact M.stp (by omega) hok) S fun e σ G H he S => ?_
        rcases hF.next hcc (by omega) he with ⟨rfl, rfl, _⟩ | ⟨hn, hi1⟩
        · exact q_if (b_Bx (v_isNx (v_var (i := 4) (d := .non) rfl))) S (fun _ G H S => ⟨_, _, _, ⟨rfl, rfl⟩, S⟩) (fun h => nomatch h)
        · refine q_if (EvBX.to (b := false) (b_Bx (v_isNx (v_var (i := 4) (d := e) rfl))) hn) S (fun h => nomatch h) fun _ G H S => ?_
          exact g_setx (d := e) (v_var rfl) S fun σ G H S => ⟨_, _, _, ⟨rfl, e, _, _, rfl, hi1⟩, S⟩
      · rintro Γ O σ G H ⟨rfl, c, z1, z2, rfl, hcc⟩ S
        rw [Int.toNat_natCast] at hcc
        obtain ⟨rfl, _⟩ := hF.end' hcc
        exact ⟨_, _, _, ⟨rfl, rfl⟩, S⟩
    · rintro σ H ⟨Γ, O, G, ⟨rfl, h1⟩, S⟩
      exact g_ret (P := (· = x)) (v_var h1) S q
theorem ok_history (D : Df K mg "history" s_history) (T : Txt K w mg C_Turing C_Registers C_InvalidMachine C_BadArgument) (c_refuse_negative : CalX P w K mg base 1 "refuse_negative" (spX Wd0 K (X_neg C_BadArgument))) (c_P_step : MetP P w K mg base 4 "step" L) : CalX P w K mg base 5 "history" (spX Wd0 K (X_run K L C_BadArgument F_hist)) := by
  refine calx_of D (fun _ _ _ _ _ _ us hl => match us, hl with | [_, _, _], _ => rfl) sc_history (spX_len (n := 3) fun _ _ ⟨_, _, _, e, _⟩ => by rw [e]; rfl) fun f cdv A outer s H0 vs Q E hr h => ⟨_, (pss_cons (ps_expr (pe_cXP c_refuse_negative hr (by decide) (L2N.takes_of rfl rfl rfl rfl) rfl (pa_cons (pv 2) pa_nil)))
      (pss_cons (ps_set (i := 3) sc_history.nd rfl (by first | exact Or.inl rfl | exact Or.inr rfl) (pe_lst (pa_cons (pv 1) pa_nil)))
      (Evl.pss_cut (ps_for (passes_of rfl) rfl (pi_range1 rfl T.n_range (pa_cons (pv 2) pa_nil)) (pg_name (i := 4) sc_history.nd rfl (by first | exact Or.inl rfl | exact Or.inr rfl))
        (pss_cons (ps_set (i := 1) sc_history.nd rfl (by first | exact Or.inl rfl | exact Or.inr rfl) (pe_mP c_P_step hr (by decide) (pv 0) (pa_cons (pv 1) pa_nil)))
      (pss_cons (ps_if (pt_cmp (pc_isN (pv 1))) (pss_one ps_break) pss_nil)
      (pss_one (ps_expr (pe_bm PySem.F.plainAttrs_list PySem.F.slot_list_append PySem.F.type_list_append mt_append (pv 3) (pa_cons (pv 1) pa_nil)))))))
      (pss_one (ps_ret (pv 3)))))), ?_⟩
  obtain ⟨G0, ds, o, kk, r, ⟨M, d, n, rfl, hc⟩, q⟩ := h
  have S := S4.start (N := N_history) kk r
  rcases hc with ⟨hn, rfl⟩ | ⟨k, rows, x, h, rfl, hk, hF, hh, rfl⟩
  · refine q_dropP (o := .err C_BadArgument none) (a_consx (v_var rfl) a_nil) ⟨n, rfl, (if_pos hn).symm⟩ S (fun _ e => nomatch e) (fun C fs e d G H S h1 h2 => ?_)
    cases e
    exact q d G H S.stp h1 h2
  · refine q_dropP (o := .val (· = .non)) (a_consx (v_var rfl) a_nil) ⟨(k : Int), rfl, (if_neg (by omega)).symm⟩ S (fun _ _ G H S => ?_) (fun _ _ e => nomatch e)
    refine q_setN (P := (· = [d])) (n_lst (a_consx (v_var (i := 1) (d := d) rfl) a_nil) fun ds e => by rw [e]; simp) S fun l ds σ G H e S => ?_
    subst e
    have hlen := hF.len
    refine q_cut (Word Wd0 K G0 G0 H0 fun Γ O => O = [(l, rows)] ∧ Γ[3]? = some (some (.adr l))) ?_ ?_
    · refine g_for1 (n := (k : Int)) (a_consx (v_var rfl) a_nil) (by omega) S (fun i Γ O => O = [(l, rows.take (i + 1))] ∧ ∃ c z1, Γ = [some M.D, some c, some (.int (k : Int)), some (.adr l), z1] ∧ rows[i]? = some c) ⟨by
          have h0 := hF.zero
          cases rows with
          | nil => simp at h0
          | cons a r =>
            cases h0
            rfl, d, none, rfl, hF.zero⟩ ?_ ?_ (by omega)
      · rintro i Γ O σ G H hi ⟨rfl, c, z1, rfl, hcc⟩ S
        have hok := hF.ok i c hcc
        refine q_set (P := M.R c) (v_methP M.mem (v_var (i := 0) (d := M.D) rfl) M.look (a_consx (v_var (i := 1) (d := c) rfl) a_nil) fun ds e => by subst e; exact M.stp (by omega) hok) S fun e σ G H he S => ?_
        rcases hF.next hcc (by omega) he with ⟨rfl, rfl, hl⟩ | ⟨hn, hi1⟩
        · rw [hl, List.take_length] at S
          exact q_if (b_Bx (v_isNx (v_var (i := 1) (d := .non) rfl))) S (fun _ G H S => ⟨_, _, _, ⟨rfl, rfl⟩, S⟩) (fun h => nomatch h)
        · refine q_if (EvBX.to (b := false) (b_Bx (v_isNx (v_var (i := 1) (d := e) rfl))) hn) S (fun h => nomatch h) fun _ G H S => ?_
          refine g_app (P := (· = e)) (v_var (i := 3) rfl) (v_var (i := 1) (d := e) rfl) S (by rw [List.length_take]; omega) fun e2 G H e3 S => ?_
          subst e3
          refine ⟨_, _, _, ⟨?_, e2, _, rfl, hi1⟩, S⟩
          rw [List.take_add_one (i := i + 1), hi1]
          rfl
      · rintro Γ O σ G H ⟨rfl, c, z1, rfl, hcc⟩ S
        rw [Int.toNat_natCast] at *
        rw [List.take_of_length_le (by omega)] at S
        exact ⟨_, _, _, ⟨rfl, rfl⟩, S⟩
    · rintro σ H ⟨Γ, O, G, ⟨rfl, h1⟩, S⟩
      obtain ⟨G, S⟩ := S4.keep (i := 3) h1 S
      have hl3 : 3 < Γ.length := by
        rcases Nat.lt_or_ge 3 Γ.length with z | z
        · exact z
        · rw [List.getElem?_eq_none z] at h1
          cases h1
      exact g_ret (P := (· = .lst rows)) (v_var (i := 3) (List.getElem?_set_self hl3)) S q
end
end K89

set_option maxHeartbeats 4000000
namespace K89
open PySem L2 Ly
theorem ms_len (rows : List (List Int)) (cs : List TC) : (msOf rows cs).length = cs.length - 1 := by
  unfold msOf
  rw [List.length_map, List.length_take]
  omega
theorem es_len (xs : List (Str × List Int)) (cs : List RC) : (esOf xs cs).length = cs.length - 1 := by
  unfold esOf
  rw [List.length_map, List.length_take]
  omega
theorem take_mem {α : Type} {cs : List α} {c : α} (h : c ∈ cs.take (cs.length - 1)) : ∃ i, cs[i]? = some c ∧ i + 1 < cs.length := by
  obtain ⟨i, hi⟩ := List.mem_iff_getElem?.mp h
  rw [List.getElem?_take] at hi
  split at hi
  · exact ⟨i, hi, by omega⟩
  · cases hi
theorem mv_of {rows : List (List Int)} {c : TC} {w m f : Int} (h : Tu.ruleOf rows c.1 c.2.2.1 = some [c.1, c.2.2.1, w, m, f]) : mvOf rows c = m := by
  unfold mvOf
  rw [h]
def fkT (cs : List TC) (i : Nat) : List Key := match cs[i]? with
  | some c => iK [c.1, c.2.2.1]
  | none => []
def fkR (cs : List RC) (i : Nat) : Key := match cs[i]? with
  | some c => Sum.inl (c.1 : Int)
  | none => Sum.inl (-1)
theorem shP_key {rows : List (List Int)} {cs : List TC} {i j : Nat} (h : shP rows cs i j = true) : fkT cs i = fkT cs j := by
  unfold shP at h
  split at h
  · rename_i a b ha hb
    unfold fkT
    rw [ha, hb]
    unfold shB at h
    simp only [Bool.and_eq_true, decide_eq_true_eq] at h
    show iK [a.1, a.2.2.1] = iK [b.1, b.2.2.1]
    rw [h.1.1, h.1.2]
  · cases h
theorem grP_key {xs : List (Str × List Int)} {cs : List RC} {i j : Nat} (h : grP xs cs i j = true) : fkR cs i = fkR cs j := by
  unfold grP at h
  split at h
  · rename_i a b ha hb
    unfold fkR
    rw [ha, hb]
    unfold grB at h
    simp only [Bool.and_eq_true, decide_eq_true_eq] at h
    show (Sum.inl (a.1 : Int) : Key) = Sum.inl (b.1 : Int)
    rw [h.1]
  · cases h
theorem ixI_at {κ : Type} [DecidableEq κ] {f : Nat → κ} {n t : Nat} {k : κ} {z : Int} (h : (ixI f n k)[t]? = some z) : ∃ i : Nat, z = (i : Int) ∧ (ixs f n k)[t]? = some i ∧ i < n ∧ f i = k := by
  unfold ixI at h
  rw [List.getElem?_map] at h
  obtain ⟨i, hi, e⟩ := Option.map_eq_some_iff.mp h
  obtain ⟨h1, h2⟩ := ixs_mem.mp (List.mem_of_getElem? hi)
  exact ⟨i, e.symm, hi, h1, h2⟩
section
variable {P : Program} {w : World} {K : PySem.W.Frag} {mg : Str → Option Value} {base : Heap} {C_Turing C_Registers C_InvalidMachine C_BadArgument : Addr}
theorem ok_fsh (D : Df K mg "_found_shift" s_found_shift) (T : Txt K w mg C_Turing C_Registers C_InvalidMachine C_BadArgument) (c_note : C8.Cal P w K mg base 2 "_note" (spOf Wd0 K (A_note C_Turing C_Registers)) []) (c_head_cells : C8.Cal P w K mg base 1 "_head_cells" (spOf Wd0 K A_cells) []) (c_is_shift : C8.Cal P w K mg base 3 "_is_shift" (spOf Wd0 K A_shift) []) (c_named : C8.Cal P w K mg base 1 "_named" (spOf Wd0 K A_named) []) : C8.Cal P w K mg base 4 "_found_shift" (spOf Wd0 K (A_fsh C_Turing)) [] := by
  refine cal_of D (fun _ _ _ _ _ _ us hl => match us, hl with | [_, _], _ => rfl) sc_found_shift (spOf_len (n := 2) fun _ _ ⟨_, _, _, _, _, _, _, _, _, e, _⟩ => by rw [e]; rfl) fun f cdv A outer s H0 vs Q E hr h => ⟨_, (pss_cons (ps_set (i := 2) sc_found_shift.nd rfl (by first | exact Or.inl rfl | exact Or.inr rfl) (C8.pe_c c_head_cells hr (by decide) rfl (pa_cons (pe_lc (own := [("configuration", 5)]) (g := gName 5) (tt := tYes) rfl sc_found_shift.nd (pi_list (pe_slice (r := rSlL K) sl_list (pv 1) po_none (po_some (pe_un un_neg pe_int)))) (blkOk_by (N := N_found_shift) (sc := defScope s_found_shift) (by decide +kernel)) (fun _ _ _ _ _ => pg_name (i := 5) sc_found_shift.nd rfl (Or.inl rfl)) (fun _ _ _ _ _ => pts_nil) (fun _ _ _ _ _ => (C8.pe_c c_note hr (by decide) rfl (pa_cons (pv 0) (pa_cons (pv 5) pa_nil))))) pa_nil)))
      (pss_cons (ps_set (i := 3) sc_found_shift.nd rfl (by first | exact Or.inl rfl | exact Or.inr rfl) pe_dnewT)
      (pss_cons (ps_for PassesOwn.never rfl (pi_enum (by rfl) T.n_enumerate (pa_cons (pv 1) pa_nil)) (pg_tup rfl (pgs_cons (pg_name (i := 4) sc_found_shift.nd rfl (by first | exact Or.inl rfl | exact Or.inr rfl)) (pgs_cons (pg_name (i := 5) sc_found_shift.nd rfl (by first | exact Or.inl rfl | exact Or.inr rfl)) pgs_nil)))
        (pss_cons (ps_asg (pv 5) (pg_tup rfl (pgs_cons (pg_name (i := 6) sc_found_shift.nd rfl (by first | exact Or.inl rfl | exact Or.inr rfl)) (pgs_cons (pg_name (i := 7) sc_found_shift.nd rfl (by first | exact Or.inl rfl | exact Or.inr rfl)) (pgs_cons (pg_name (i := 8) sc_found_shift.nd rfl (by first | exact Or.inl rfl | exact Or.inr rfl)) (pgs_cons (pg_name (i := 7) sc_found_shift.nd rfl (by first | exact Or.inl rfl | exact Or.inr rfl)) pgs_nil))))))
      (pss_cons (ps_set (i := 9) sc_found_shift.nd rfl (by first | exact Or.inl rfl | exact Or.inr rfl) (pe_dsetT (units1 hr) (pv 3) (pe_tup (pa_cons (pv 6) (pa_cons (pv 8) pa_nil))) (pe_lst pa_nil) ⟨rfl, rfl, rfl, rfl⟩))
      (pss_cons (ps_for PassesOwn.never rfl (pi_list (pv 9)) (pg_name (i := 10) sc_found_shift.nd rfl (by first | exact Or.inl rfl | exact Or.inr rfl))
        (pss_one (ps_if (pt_val (C8.pe_c c_is_shift hr (by decide) rfl (pa_cons (pe_ix (r := rIxL K) ix_list (pv 1) (pv 10) (fun _ _ => rfl)) (pa_cons (pv 5) (pa_cons (pe_slice (r := rSlL K) sl_list (pv 2) (po_some (pv 10)) (po_some (pe_op op_add (pv 4) pe_int))) pa_nil))))) (pss_one (ps_ret (C8.pe_c c_named hr (by decide) rfl (pa_cons pe_str (pa_cons (pv 1) (pa_cons (pv 10) (pa_cons (pv 4) pa_nil))))))) pss_nil)))
      (pss_one (ps_expr (pe_bm PySem.F.plainAttrs_list PySem.F.slot_list_append PySem.F.type_list_append mt_append (pv 9) (pa_cons (pv 4) pa_nil))))))))
      (pss_one (ps_ret pe_non))))), ?_⟩
  obtain ⟨G0, ds, P, k, rr, ⟨st, sy, rows, fsd, cs, o, hR, hF, hO, rfl, rfl⟩, q⟩ := h
  have S := S4.start (N := N_found_shift) k rr
  have hlen := hR.len
  have hpos := hR.pos
  have hms := ms_len rows cs
  refine q_setx (d := .lst (Ly.dI (heads (msOf rows cs)))) (v_call0x (a_consx (d := .lst (Ly.dI (msOf rows cs))) (EvX.to (EvN.evx (n_lcM (us := cs.take (cs.length - 1)) (f := tD) (g := fun c => .int (mvOf rows c)) (EvX.to (n_slL (v_var (i := 1) (d := .lst (cs.map tD)) rfl) o_none (o_some (v_neg v_int))) ?_) ?_ fun c hc => ?_) fun ds e => e) ?_) a_nil) ⟨msOf rows cs, by omega, rfl, rfl⟩) S fun σ G H S => ?_
  · rw [cutD_last, List.length_map, List.map_take]
  · rw [List.length_take]
    omega
  · obtain ⟨i, hi, hl⟩ := take_mem hc
    obtain ⟨w, m, f, hru⟩ := hR.ru i c hi hl
    exact v_call0x (a_consx (v_var (i := 0) (d := .obj C_Turing fsd) rfl) (a_consx (v_var (i := 5) (d := tD c) rfl) a_nil)) (.inl ⟨st, sy, rows, fsd, c, w, m, f, hF, hru, rfl, by rw [mv_of hru]⟩)
  · unfold msOf
    show _ = Dat.lst (List.map Dat.int _)
    rw [List.map_map]
    rfl
  refine q_newOT S fun x σ H h0 S => ?_
  refine q_forEnO (ds := cs.map tD) (j1 := 4) (j2 := 5) (v_var (i := 1) (d := .lst (cs.map tD)) rfl) S (fun n o' Γ O => (∃ vs, o' = .dT vs ∧ vs.length ≤ n ∧ Ix (fkT cs) n vs O) ∧ (∃ z4 z5 z6 z7 z8 z9 z10, Γ = [some (.obj C_Turing fsd), some (.lst (cs.map tD)), some (.lst (Ly.dI (heads (msOf rows cs)))), some (.adr x), z4, z5, z6, z7, z8, z9, z10]) ∧ ∀ j, j < n → ∀ i, i < j → shP rows cs i j = false) ⟨⟨[], rfl, Nat.le_refl _, Ix.nil⟩, ⟨_, _, _, _, _, _, _, rfl⟩, fun j h => absurd h (by omega)⟩ ?_ ?_
  · rintro G1 n d o' Γ O σ G H hdd ⟨⟨vs, rfl, hvl, hix⟩, ⟨z4, z5, z6, z7, z8, z9, z10, rfl⟩, hB⟩ S
    rw [List.getElem?_map] at hdd
    obtain ⟨c, hc, rfl⟩ := Option.map_eq_some_iff.mp hdd
    have hn : n < cs.length := (List.getElem?_eq_some_iff.mp hc).1
    have hcf := hR.cf n c hc
    have hln := hcf.ln
    have hrn := hcf.rn
    refine q_tup (js := [6, 7, 8, 7]) (ds := [.int c.1, .tup (Ly.dI c.2.1), .int c.2.2.1, .tup (Ly.dI c.2.2.2)]) (v_var (i := 5) rfl) rfl rfl S fun σ G H S => ?_
    have hfk : fkT cs n = iK [c.1, c.2.2.1] := by
      unfold fkT
      rw [hc]
    refine q_setdT1 (f := fkT cs) (ns := [c.1, c.2.2.1]) hix rfl (a_consx (v_var (i := 6) (d := .int c.1) rfl) (a_consx (v_var (i := 8) (d := .int c.2.2.1) rfl) a_nil)) (by simp) (by omega) S fun l vs O σ G H hv hvl2 hix S => ?_
    obtain ⟨l2, el, hm⟩ := hix.ref _ _ hv
    cases el
    refine q_forO (ns := ixI (fkT cs) n (iK [c.1, c.2.2.1])) (l := l) (v_var (i := 9) rfl) hm S (fun t Γ => (∃ z10, Γ = [some (.obj C_Turing fsd), some (.lst (cs.map tD)), some (.lst (Ly.dI (heads (msOf rows cs)))), some (.adr x), some (.int (n : Int)), some (tD c), some (.int c.1), some (.tup (Ly.dI c.2.2.2)), some (.int c.2.2.1), some (.adr l), z10]) ∧ ∀ t2 i, t2 < t → (ixs (fkT cs) n (iK [c.1, c.2.2.1]))[t2]? = some i → shP rows cs i n = false) ⟨⟨_, rfl⟩, fun t2 i h => absurd h (by omega)⟩ ?_ ?_
    · rintro G1 t z Γ σ G H hz ⟨⟨z10, rfl⟩, hT⟩ S
      obtain ⟨i, rfl, hti, hin, hfi⟩ := ixI_at hz
      obtain ⟨a, ha⟩ : ∃ a, cs[i]? = some a := ⟨_, List.getElem?_eq_getElem (by omega)⟩
      have hca := hR.cf i a ha
      have haln := hca.ln
      have harn := hca.rn
      have hB0 : shP rows cs i n = shB a c (loS (msOf rows cs) i n) (hiS (msOf rows cs) i n) (hd (msOf rows cs) n - hd (msOf rows cs) i) := by
        unfold shP
        rw [ha, hc]
      have hre := seg_reach (ms := msOf rows cs) (i := i) (j := n) (by omega) (by omega)
      refine g_if (P := (· = shP rows cs i n)) (EvBX.to (b_Bx (v_call0x (P := (· = .bl (shB a c (loS (msOf rows cs) i n) (hiS (msOf rows cs) i n) (hd (msOf rows cs) n - hd (msOf rows cs) i)))) (a_consx (v_ixL (ds := cs.map tD) (j := i) (d := tD a) (v_var (i := 1) rfl) (v_var (i := 10) (d := .int (i : Int)) rfl) rfl (by rw [List.getElem?_map, ha]; rfl)) (a_consx (v_var (i := 5) (d := tD c) rfl) (a_consx (d := .lst (Ly.dI (seg (msOf rows cs) i n))) (EvX.to (n_slL (v_var (i := 2) (d := .lst (Ly.dI (heads (msOf rows cs)))) rfl) (o_some (v_var (i := 10) (d := .int (i : Int)) rfl)) (o_some (v_add (v_var (i := 4) (d := .int (n : Int)) rfl) v_int))) ?_) a_nil))) ⟨a, c, seg (msOf rows cs) i n, _, _, _, _, ⟨by omega, by omega, by omega, by omega⟩, hre, rfl, rfl⟩)) hB0.symm) S (fun e G H S => ?_) fun e G H S => ?_
      · rw [show (n : Int) + 1 = ((n + 1 : Nat) : Int) by omega, cutD_mid _ (by omega) (by rw [List.length_map, heads_len]; omega)]
        unfold seg
        show Dat.lst ((List.map Dat.int _).drop i |>.take _) = Dat.lst (List.map Dat.int _)
        rw [List.map_take, List.map_drop]
      · have eo : o = some (i, n) := hO.one ⟨⟨hin, hn, e.symm⟩, hB, fun i2 hi2 => by
          cases e2 : shP rows cs i2 n with
          | false => rfl
          | true =>
            have hk2 := (shP_key e2).trans hfk
            obtain ⟨t2, ht2, hx2⟩ := ixs_lt hti hi2 hk2
            rw [hT t2 i2 ht2 hx2] at e2
            cases e2⟩
        subst eo
        refine g_ret (P := (· = papD "shift" (sameAt cs) (some (i, n)))) (EvX.to (v_call0x (a_consx v_str (a_consx (v_var (i := 1) (d := .lst (cs.map tD)) rfl) (a_consx (v_var (i := 10) (d := .int (i : Int)) rfl) (a_consx (v_var (i := 4) (d := .int (n : Int)) rfl) a_nil)))) ⟨_, _, i, n, tD a, tD c, by rw [List.getElem?_map, ha]; rfl, by rw [List.getElem?_map, hc]; rfl, pl_t (by omega) (by omega), pl_t (by omega) (by omega), rfl, rfl⟩) ?_) (S4.leaveO h0 S) q
        have hs : sameAt cs i n = decide (a = c) := by
          unfold sameAt
          rw [ha, hc]
          by_cases z : a = c <;> simp [z]
        show _ = Dat.tup [Dat.str (if sameAt cs i n = true then "repeat" else "shift"), Dat.int (i : Int), Dat.int (n : Int)]
        rw [eqv_t, hs]
      · refine ⟨_, G, ⟨⟨_, rfl⟩, fun t2 i2 h2 hx2 => ?_⟩, S⟩
        rcases Nat.lt_or_ge t2 t with z | z
        · exact hT t2 i2 z hx2
        · have et : t2 = t := by omega
          subst et
          rw [hti] at hx2
          cases hx2
          exact e.symm
    · rintro Γ σ G H ⟨⟨z10, rfl⟩, hT⟩ S
      obtain ⟨O2, hp⟩ := own_split hm
      have S := S4.perm hp S
      have hix2 := hix.perm (O2 := (l, Ly.dI (ixI (fkT cs) n (iK [c.1, c.2.2.1]))) :: O2) fun x hx => hp.mem_iff.mp hx
      have happ := hix2.app hv hfk S.nd
      refine g_app (P := (· = .int (n : Int))) (v_var (i := 9) rfl) (v_var (i := 4) rfl) S (by rw [List.length_map]; have := ixI_len (f := fkT cs) (n := n) (k := iK [c.1, c.2.2.1]); omega) fun d G H e S => ?_
      subst e
      refine ⟨_, _, _, G, ⟨⟨vs, rfl, by omega, happ⟩, ⟨_, _, _, _, _, _, _, rfl⟩, fun j hj i hi => ?_⟩, S⟩
      rcases Nat.lt_or_ge j n with z | z
      · exact hB j z i hi
      · have ej : j = n := by omega
        subst ej
        cases e2 : shP rows cs i j with
        | false => rfl
        | true =>
          have hk2 := (shP_key e2).trans hfk
          obtain ⟨t2, hx2⟩ := List.mem_iff_getElem?.mp (ixs_mem.mpr ⟨hi, hk2⟩)
          have ht2 := (List.getElem?_eq_some_iff.mp hx2).1
          have hll : (ixI (fkT cs) j (iK [c.1, c.2.2.1])).length = (ixs (fkT cs) j (iK [c.1, c.2.2.1])).length := List.length_map ..
          rw [hT t2 i (by omega) hx2] at e2
          cases e2
  · rintro o' Γ O σ G H ⟨⟨vs, rfl, hvl, hix⟩, ⟨z4, z5, z6, z7, z8, z9, z10, rfl⟩, hB⟩ S
    rw [List.length_map] at hB
    have eo : o = none := hO.one (o2 := none) hB
    subst eo
    exact g_ret (P := (· = .non)) v_non (S4.leaveO h0 S) q
theorem ok_fgr (D : Df K mg "_found_growth" s_found_growth) (T : Txt K w mg C_Turing C_Registers C_InvalidMachine C_BadArgument) (c_note : C8.Cal P w K mg base 2 "_note" (spOf Wd0 K (A_note C_Turing C_Registers)) []) (c_is_growth : C8.Cal P w K mg base 1 "_is_growth" (spOf Wd0 K A_growth) []) (c_named : C8.Cal P w K mg base 1 "_named" (spOf Wd0 K A_named) []) : C8.Cal P w K mg base 4 "_found_growth" (spOf Wd0 K (A_fgr C_Registers)) [] := by
  refine cal_of D (fun _ _ _ _ _ _ us hl => match us, hl with | [_, _], _ => rfl) sc_found_growth (spOf_len (n := 2) fun _ _ ⟨_, _, _, _, _, _, e, _⟩ => by rw [e]; rfl) fun f cdv A outer s H0 vs Q E hr h => ⟨_, (pss_cons (ps_setLc (i := 2) (own := [("configuration", 5)]) (g := gName 5) (tt := tYes) rfl sc_found_growth.nd rfl rfl (sw_true rfl rfl rfl (by decide +kernel)) (pi_list (pe_slice (r := rSlL K) sl_list (pv 1) po_none (po_some (pe_un un_neg pe_int)))) (blkOk_by (N := N_found_growth) (sc := defScope s_found_growth) (by decide +kernel)) (fun _ _ _ _ _ => pg_name (i := 5) sc_found_growth.nd rfl (Or.inl rfl)) (fun _ _ _ _ _ => pts_nil) (fun _ _ _ _ _ => (C8.pe_c c_note hr (by decide) rfl (pa_cons (pv 0) (pa_cons (pv 5) pa_nil)))))
      (pss_cons (ps_set (i := 3) sc_found_growth.nd rfl (by first | exact Or.inl rfl | exact Or.inr rfl) pe_dnewK)
      (pss_cons (ps_for PassesOwn.never rfl (pi_enum (by rfl) T.n_enumerate (pa_cons (pv 1) pa_nil)) (pg_tup rfl (pgs_cons (pg_name (i := 4) sc_found_growth.nd rfl (by first | exact Or.inl rfl | exact Or.inr rfl)) (pgs_cons (pg_name (i := 5) sc_found_growth.nd rfl (by first | exact Or.inl rfl | exact Or.inr rfl)) pgs_nil)))
        (pss_cons (ps_set (i := 6) sc_found_growth.nd rfl (by first | exact Or.inl rfl | exact Or.inr rfl) (pe_dsetd (pv 3) (pe_ix (r := rIxT K) ix_tup (pv 5) pe_int (fun _ _ => rfl)) (pe_lst pa_nil) ⟨rfl, rfl, rfl, rfl⟩))
      (pss_cons (ps_for PassesOwn.never rfl (pi_list (pv 6)) (pg_name (i := 7) sc_found_growth.nd rfl (by first | exact Or.inl rfl | exact Or.inr rfl))
        (pss_one (ps_if (pt_val (C8.pe_c c_is_growth hr (by decide) rfl (pa_cons (pe_ix (r := rIxL K) ix_list (pv 1) (pv 7) (fun _ _ => rfl)) (pa_cons (pv 5) (pa_cons (pe_slice (r := rSlL K) sl_list (pv 2) (po_some (pv 7)) (po_some (pv 4))) pa_nil))))) (pss_one (ps_ret (C8.pe_c c_named hr (by decide) rfl (pa_cons pe_str (pa_cons (pv 1) (pa_cons (pv 7) (pa_cons (pv 4) pa_nil))))))) pss_nil)))
      (pss_one (ps_expr (pe_bm PySem.F.plainAttrs_list PySem.F.slot_list_append PySem.F.type_list_append mt_append (pv 6) (pa_cons (pv 4) pa_nil)))))))
      (pss_one (ps_ret pe_non))))), ?_⟩
  obtain ⟨G0, ds, P, k, rr, ⟨cc, xs, cs, o, hR, hO, rfl, rfl⟩, q⟩ := h
  have S := S4.start (N := N_found_growth) k rr
  have hlen := hR.len
  have hpos := hR.pos
  have hes := es_len xs cs
  refine q_setN (P := (· = (esOf xs cs).map oD)) (EvN.imp (n_lcM (us := cs.take (cs.length - 1)) (f := rD) (g := fun c => oD (empt xs c)) (EvX.to (n_slL (v_var (i := 1) (d := .lst (cs.map rD)) rfl) o_none (o_some (v_neg v_int))) ?_) ?_ fun c hc => ?_) fun ds e => ?_) S fun l0 ds σ G H e S => ?_
  · rw [cutD_last, List.length_map, List.map_take]
  · rw [List.length_take]
    omega
  · obtain ⟨i, hi, hl⟩ := take_mem hc
    exact v_call0x (a_consx (v_var (i := 0) (d := .obj C_Registers (KR.regF (cc : Int) xs)) rfl) (a_consx (v_var (i := 5) (d := rD c) rfl) a_nil)) (.inr ⟨cc, xs, c, hR.cf i c hi, rfl, rfl⟩)
  · rw [e]
    unfold esOf
    rw [List.map_map]
    rfl
  subst e
  obtain ⟨G, S⟩ := S4.keep (i := 2) rfl S
  refine q_newOK S fun x σ H h0 S => ?_
  refine q_forEnO (ds := cs.map rD) (j1 := 4) (j2 := 5) (v_var (i := 1) (d := .lst (cs.map rD)) rfl) S (fun n o' Γ O => (∃ vs, o' = .dK vs ∧ vs.length ≤ n ∧ Ix (fkR cs) n vs O) ∧ (∃ z4 z5 z6 z7, Γ = [some (.obj C_Registers (KR.regF (cc : Int) xs)), some (.lst (cs.map rD)), some (.lst ((esOf xs cs).map oD)), some (.adr x), z4, z5, z6, z7]) ∧ ∀ j, j < n → ∀ i, i < j → grP xs cs i j = false) ⟨⟨[], rfl, Nat.le_refl _, Ix.nil⟩, ⟨_, _, _, _, rfl⟩, fun j h => absurd h (by omega)⟩ ?_ ?_
  · rintro G1 n d o' Γ O σ G H hdd ⟨⟨vs, rfl, hvl, hix⟩, ⟨z4, z5, z6, z7, rfl⟩, hB⟩ S
    rw [List.getElem?_map] at hdd
    obtain ⟨c, hc, rfl⟩ := Option.map_eq_some_iff.mp hdd
    have hn : n < cs.length := (List.getElem?_eq_some_iff.mp hc).1
    have hcf := hR.cf n c hc
    have hcl := hcf.len
    have hcs := hcf.small
    have hfk : fkR cs n = Sum.inl (c.1 : Int) := by
      unfold fkR
      rw [hc]
    refine q_setdK1 (f := fkR cs) (m := (c.1 : Int)) hix rfl (v_ix0 (d := .int (c.1 : Int)) (v_var (i := 5) (d := rD c) rfl) rfl) (by omega) S fun l vs O σ G H hv hvl2 hix S => ?_
    obtain ⟨l2, el, hm⟩ := hix.ref _ _ hv
    cases el
    refine q_forO (ns := ixI (fkR cs) n (Sum.inl (c.1 : Int))) (l := l) (v_var (i := 6) rfl) hm S (fun t Γ => (∃ z7, Γ = [some (.obj C_Registers (KR.regF (cc : Int) xs)), some (.lst (cs.map rD)), some (.lst ((esOf xs cs).map oD)), some (.adr x), some (.int (n : Int)), some (rD c), some (.adr l), z7]) ∧ ∀ t2 i, t2 < t → (ixs (fkR cs) n (Sum.inl (c.1 : Int)))[t2]? = some i → grP xs cs i n = false) ⟨⟨_, rfl⟩, fun t2 i h => absurd h (by omega)⟩ ?_ ?_
    · rintro G1 t z Γ σ G H hz ⟨⟨z7, rfl⟩, hT⟩ S
      obtain ⟨i, rfl, hti, hin, hfi⟩ := ixI_at hz
      obtain ⟨a, ha⟩ : ∃ a, cs[i]? = some a := ⟨_, List.getElem?_eq_getElem (by omega)⟩
      have hca := hR.cf i a ha
      have hal := hca.len
      have hB0 : grP xs cs i n = grB a c (((esOf xs cs).drop i).take (n - i)) := by
        unfold grP
        rw [ha, hc]
      refine g_if (P := (· = grP xs cs i n)) (EvBX.to (b_Bx (v_call0x (P := (· = .bl (grB a c (((esOf xs cs).drop i).take (n - i))))) (a_consx (v_ixL (ds := cs.map rD) (j := i) (d := rD a) (v_var (i := 1) rfl) (v_var (i := 7) (d := .int (i : Int)) rfl) rfl (by rw [List.getElem?_map, ha]; rfl)) (a_consx (v_var (i := 5) (d := rD c) rfl) (a_consx (d := .lst ((((esOf xs cs).drop i).take (n - i)).map oD)) (EvX.to (n_slL (v_var (i := 2) (d := .lst ((esOf xs cs).map oD)) rfl) (o_some (v_var (i := 7) (d := .int (i : Int)) rfl)) (o_some (v_var (i := 4) (d := .int (n : Int)) rfl))) ?_) a_nil))) ⟨a, c, _, by omega, by omega, by rw [List.length_take, List.length_drop]; omega, fun m hm => ?_, rfl, rfl⟩)) hB0.symm) S (fun e G H S => ?_) fun e G H S => ?_
      · rw [cutD_mid _ (by omega) (by rw [List.length_map]; omega), List.map_take, List.map_drop]
      · have h1 := List.mem_of_mem_drop (List.mem_of_mem_take hm)
        unfold esOf at h1
        obtain ⟨r, hr, er⟩ := List.mem_map.mp h1
        obtain ⟨i2, hi2, _⟩ := take_mem hr
        have hC2 := hR.cf i2 r hi2
        obtain ⟨x2, hx2, hs2⟩ := hC2.at'
        unfold empt at er
        rw [hx2] at er
        rcases hs2 with rfl | ⟨n2, t2, rfl, hn2, _⟩ | ⟨n2, t2, u2, rfl, hn2, _⟩
        · cases er
        · have er : (if ("inc" : Str) = "dec" ∧ r.2[n2]? = some 0 then some n2 else none) = some m := er
          rw [if_neg (fun z => absurd z.1 (by decide))] at er
          cases er
        · have er : (if ("dec" : Str) = "dec" ∧ r.2[n2]? = some 0 then some n2 else none) = some m := er
          split at er
          · cases er
            omega
          · cases er
      · have eo : o = some (i, n) := hO.one ⟨⟨hin, hn, e.symm⟩, hB, fun i2 hi2 => by
          cases e2 : grP xs cs i2 n with
          | false => rfl
          | true =>
            have hk2 := (grP_key e2).trans hfk
            obtain ⟨t2, ht2, hx2⟩ := ixs_lt hti hi2 hk2
            rw [hT t2 i2 ht2 hx2] at e2
            cases e2⟩
        subst eo
        refine g_ret (P := (· = papD "growth" (sameAt cs) (some (i, n)))) (EvX.to (v_call0x (a_consx v_str (a_consx (v_var (i := 1) (d := .lst (cs.map rD)) rfl) (a_consx (v_var (i := 7) (d := .int (i : Int)) rfl) (a_consx (v_var (i := 4) (d := .int (n : Int)) rfl) a_nil)))) ⟨_, _, i, n, rD a, rD c, by rw [List.getElem?_map, ha]; rfl, by rw [List.getElem?_map, hc]; rfl, pl_r (by omega), pl_r (by omega), rfl, rfl⟩) ?_) (S4.leaveO h0 S) q
        have hs : sameAt cs i n = decide (a = c) := by
          unfold sameAt
          rw [ha, hc]
          by_cases z : a = c <;> simp [z]
        show _ = Dat.tup [Dat.str (if sameAt cs i n = true then "repeat" else "growth"), Dat.int (i : Int), Dat.int (n : Int)]
        rw [eqv_r, hs]
      · refine ⟨_, G, ⟨⟨_, rfl⟩, fun t2 i2 h2 hx2 => ?_⟩, S⟩
        rcases Nat.lt_or_ge t2 t with z | z
        · exact hT t2 i2 z hx2
        · have et : t2 = t := by omega
          subst et
          rw [hti] at hx2
          cases hx2
          exact e.symm
    · rintro Γ σ G H ⟨⟨z7, rfl⟩, hT⟩ S
      obtain ⟨O2, hp⟩ := own_split hm
      have S := S4.perm hp S
      have hix2 := hix.perm (O2 := (l, Ly.dI (ixI (fkR cs) n (Sum.inl (c.1 : Int)))) :: O2) fun x hx => hp.mem_iff.mp hx
      have happ := hix2.app hv hfk S.nd
      refine g_app (P := (· = .int (n : Int))) (v_var (i := 6) rfl) (v_var (i := 4) rfl) S (by rw [List.length_map]; have := ixI_len (f := fkR cs) (n := n) (k := (Sum.inl (c.1 : Int) : Key)); omega) fun d G H e S => ?_
      subst e
      refine ⟨_, _, _, G, ⟨⟨vs, rfl, by omega, happ⟩, ⟨_, _, _, _, rfl⟩, fun j hj i hi => ?_⟩, S⟩
      rcases Nat.lt_or_ge j n with z | z
      · exact hB j z i hi
      · have ej : j = n := by omega
        subst ej
        cases e2 : grP xs cs i j with
        | false => rfl
        | true =>
          have hk2 := (grP_key e2).trans hfk
          obtain ⟨t2, hx2⟩ := List.mem_iff_getElem?.mp (ixs_mem.mpr ⟨hi, hk2⟩)
          have ht2 := (List.getElem?_eq_some_iff.mp hx2).1
          have hll : (ixI (fkR cs) j (Sum.inl (c.1 : Int))).length = (ixs (fkR cs) j (Sum.inl (c.1 : Int))).length := List.length_map ..
          rw [hT t2 i (by omega) hx2] at e2
          cases e2
  · rintro o' Γ O σ G H ⟨⟨vs, rfl, hvl, hix⟩, ⟨z4, z5, z6, z7, rfl⟩, hB⟩ S
    rw [List.length_map] at hB
    have eo : o = none := hO.one (o2 := none) hB
    subst eo
    exact g_ret (P := (· = .non)) v_non (S4.leaveO h0 S) q
end
end K89

set_option maxHeartbeats 4000000
namespace K89
open PySem L2 Ly
/-! ## the two kinds -/
theorem dI_inj {a b : List Int} (h : Ly.dI a = Ly.dI b) : a = b := by
  have := congrArg (List.map KT.toI) h
  rw [KT.toI_map, KT.toI_map] at this
  exact this
inductive Knd where
  | tu (st sy : Int) (rows : List (List Int))
  | re (c : Nat) (xs : List (Str × List Int))
namespace Knd
def sort : Knd → Int
  | tu _ _ _ => 0
  | re _ _ => 1
def made : Knd → Dat
  | tu _ _ rows => .lst (rows.map rowD)
  | re _ xs => .lst (KR.insD xs)
def valid : Knd → Prop
  | tu a b rows => KT.Mok a b rows
  | re c xs => (1 ≤ c ∧ c ≤ 3) ∧ (1 ≤ xs.length ∧ xs.length ≤ 6) ∧ ∀ x ∈ xs, KR.Shp c xs.length x
def R : Knd → Dat → Dat → Prop
  | tu _ _ rows, d, e => ∃ q l s r, d = Tu.cfD q l s r ∧ e = Tu.nextD rows q l s r
  | re _ xs, d, e => ∃ (pl : Nat) (vs : List Int), d = .tup [.int (pl : Int), .tup (Ly.dI vs)] ∧ e = KR.cfD (KR.regStep xs pl vs)
def ok : Knd → Nat → Dat → Prop
  | tu a b _, n, d => ∃ q l s r, d = Tu.cfD q l s r ∧ Tu.Cf a b (4 + n) q l s r
  | re c xs, _, d => ∃ (pl : Nat) (vs : List Int), d = .tup [.int (pl : Int), .tup (Ly.dI vs)] ∧ KR.Cf c pl xs vs
theorem cf_inj {q q2 s s2 : Int} {l l2 r r2 : List Int} (h : Tu.cfD q l s r = Tu.cfD q2 l2 s2 r2) : q = q2 ∧ l = l2 ∧ s = s2 ∧ r = r2 := by
  injection h with h
  injection h with h1 h
  injection h with h2 h
  injection h with h3 h
  injection h with h4 _
  injection h1 with h1
  injection h2 with h2
  injection h3 with h3
  injection h4 with h4
  exact ⟨h1, dI_inj h2, h3, dI_inj h4⟩
theorem rc_inj {p p2 : Nat} {v v2 : List Int} (h : Dat.tup [.int (p : Int), .tup (Ly.dI v)] = .tup [.int (p2 : Int), .tup (Ly.dI v2)]) : p = p2 ∧ v = v2 := by
  injection h with h
  injection h with h1 h
  injection h with h2 _
  injection h1 with h1
  injection h2 with h2
  exact ⟨by omega, dI_inj h2⟩
theorem one : ∀ {W : Knd} {d e e2 : Dat}, W.R d e → W.R d e2 → e = e2
  | tu _ _ _, _, _, _, ⟨_, _, _, _, h1, e1⟩, ⟨_, _, _, _, h2, e2⟩ => by
    obtain ⟨rfl, rfl, rfl, rfl⟩ := cf_inj (h1.symm.trans h2)
    rw [e1, e2]
  | re _ _, _, _, _, ⟨_, _, h1, e1⟩, ⟨_, _, h2, e2⟩ => by
    obtain ⟨rfl, rfl⟩ := rc_inj (h1.symm.trans h2)
    rw [e1, e2]
theorem tot : ∀ {W : Knd} {n : Nat} {d : Dat}, W.ok n d → ∃ e, W.R d e
  | tu _ _ _, _, _, ⟨_, _, _, _, h, _⟩ => ⟨_, _, _, _, _, h, rfl⟩
  | re _ _, _, _, ⟨_, _, h, _⟩ => ⟨_, _, _, h, rfl⟩
theorem nxt : ∀ {W : Knd} {n : Nat} {d e : Dat}, W.valid → W.ok n d → W.R d e → e = .non ∨ (isN e = false ∧ W.ok (n + 1) e)
  | tu a b rows, n, _, _, v, ⟨q, l, s, r, h, c⟩, ⟨_, _, _, _, h2, e2⟩ => by
    obtain ⟨rfl, rfl, rfl, rfl⟩ := cf_inj (h.symm.trans h2)
    rcases Tu.rule_cases v.good q s with z | ⟨w, m, f, z, hw, hm, hf⟩
    · rw [KT.next_none z] at e2
      exact .inl e2
    · rw [KT.next_some z] at e2
      rw [e2]
      exact .inr ⟨rfl, _, _, _, _, rfl, c.step hw hm hf⟩
  | re c xs, _, _, _, v, ⟨pl, vs, h, z⟩, ⟨_, _, h2, e2⟩ => by
    obtain ⟨rfl, rfl⟩ := rc_inj (h.symm.trans h2)
    rw [e2]
    cases es : KR.regStep xs pl vs with
    | none => exact .inl rfl
    | some o =>
      obtain ⟨q, us⟩ := o
      exact .inr ⟨rfl, _, _, rfl, z.step es⟩
theorem nl_w (ws : List Int) : NL (.tup (Ly.dI ws)) := by
  rw [NL]
  exact NLs.ints ws
theorem nl : ∀ {W : Knd} {n : Nat} {d : Dat}, W.ok n d → NL d
  | .tu _ _ _, _, _, ⟨q, l, s, r, e, _⟩ => by
    subst e
    show NL (.tup [_, _, _, _])
    rw [NL, NLs, NLs, NLs, NLs, NLs, NL, NL]
    exact ⟨trivial, nl_w l, trivial, nl_w r, trivial⟩
  | .re _ _, _, _, ⟨pl, vs, e, _⟩ => by
    subst e
    rw [NL, NLs, NLs, NLs, NL]
    exact ⟨trivial, nl_w vs, trivial⟩
end Knd
abbrev LS (CT CR : Addr) (K : PySem.W.Frag) : ClsL := [(CT, spOf Wd0 K (KT.A_step CT)), (CR, spOf Wd0 K (KR.A_step CR))]
def IsO (CT CR : Addr) : Knd → Dat → Prop
  | .tu st sy rows, d => ∃ fsd, d = .obj CT fsd ∧ Tu.TurG st sy rows fsd
  | .re c xs, d => d = .obj CR (KR.regF (c : Int) xs)
theorem fun_eq {p q : Dat → Prop} (h : ∀ e, p e ↔ q e) : p = q := funext fun e => propext (h e)
theorem mc_ex {K : PySem.W.Frag} {CT CR : Addr} : ∀ {W : Knd} {o : Dat}, W.valid → IsO CT CR W o → ∃ M : Mc K (LS CT CR K), M.D = o ∧ M.R = W.R ∧ M.ok = W.ok
  | .tu st sy rows, _, v, ⟨fsd, rfl, hF⟩ => by
    refine ⟨{ C := CT, fsd := fsd, A := KT.A_step CT, R := (Knd.tu st sy rows).R, ok := (Knd.tu st sy rows).ok, mem := by simp [LS], look := ?_, one := Knd.one, tot := fun _ h => Knd.tot h, stp := ?_, nxt := fun _ h1 h2 => (Knd.nxt v h1 h2).imp id fun z => ⟨z.1, fun _ => z.2⟩ }, rfl, rfl, rfl⟩
    · obtain ⟨ss, es, _, _, _, _, rfl⟩ := hF
      rfl
    · rintro n d hn ⟨q, l, s, r, rfl, c⟩
      have hl := c.ln
      have hr := c.rn
      refine ⟨st, sy, rows, fsd, q, s, l, r, hF.tur, v.good, by omega, by omega, rfl, fun_eq fun e => ⟨fun ⟨q2, l2, s2, r2, h, e2⟩ => ?_, fun h => ⟨q, l, s, r, rfl, h⟩⟩⟩
      obtain ⟨rfl, rfl, rfl, rfl⟩ := Knd.cf_inj h
      exact e2
  | .re c xs, _, v, h => by
    subst h
    refine ⟨{ C := CR, fsd := KR.regF (c : Int) xs, A := KR.A_step CR, R := (Knd.re c xs).R, ok := (Knd.re c xs).ok, mem := by simp [LS], look := rfl, one := Knd.one, tot := fun _ h => Knd.tot h, stp := ?_, nxt := fun _ h1 h2 => (Knd.nxt v h1 h2).imp id fun z => ⟨z.1, fun _ => z.2⟩ }, rfl, rfl, rfl⟩
    rintro n d hn ⟨pl, vs, rfl, z⟩
    refine ⟨c, pl, xs, vs, z, rfl, fun_eq fun e => ⟨fun ⟨p2, v2, h, e2⟩ => ?_, fun h => ⟨pl, vs, rfl, h⟩⟩⟩
    obtain ⟨rfl, rfl⟩ := Knd.rc_inj h
    exact e2
/-! ## a run's configurations -/
theorem lift {α : Type} {f : α → Dat} : ∀ {rs : List Dat}, (∀ (i : Nat) (y : Dat), rs[i]? = some y → ∃ c, y = f c) → ∃ cs : List α, rs = cs.map f
  | [], _ => ⟨[], rfl⟩
  | y :: rs, h => by
    obtain ⟨c, hc⟩ := h 0 y rfl
    obtain ⟨cs, hcs⟩ := lift (rs := rs) fun i z hz => h (i + 1) z hz
    exact ⟨c :: cs, by rw [hc, hcs]; rfl⟩
section
variable {K : PySem.W.Frag} {L : ClsL} {M : Mc K L} {d x : Dat} {k : Nat} {rs : List Dat}
theorem Full.tu {st sy : Int} {rows : List (List Int)} (hv : (Knd.tu st sy rows).valid) (hR : M.R = (Knd.tu st sy rows).R) (hok : M.ok = (Knd.tu st sy rows).ok) (hk : k ≤ 15) (h : Full M d k rs x) : ∃ cs : List TC, rs = cs.map tD ∧ TRun st sy rows cs := by
  have ho : ∀ (i : Nat) (y : Dat), rs[i]? = some y → (Knd.tu st sy rows).ok i y := fun i y hy => by
    have := h.ok i y hy
    rwa [hok] at this
  obtain ⟨cs, e⟩ := lift (f := tD) (rs := rs) fun i y hy => by
    obtain ⟨q, l, s, r, e, _⟩ := ho i y hy
    exact ⟨(q, l, s, r), e⟩
  have hp := h.pos
  have hl := h.len
  subst e
  rw [List.length_map] at hp hl
  have cf : ∀ (i : Nat) (c : TC), cs[i]? = some c → Tu.Cf st sy (4 + i) c.1 c.2.1 c.2.2.1 c.2.2.2 := fun i c hc => by
    obtain ⟨q, l, s, r, e, z⟩ := ho i (tD c) (by rw [List.getElem?_map, hc]; rfl)
    obtain ⟨h1, h2, h3, h4⟩ := Knd.cf_inj e
    rw [h1, h2, h3, h4]
    exact z
  refine ⟨cs, rfl, hp, by omega, cf, fun i c hc hl2 => ?_⟩
  have hy : (cs.map tD)[i]? = some (tD c) := by rw [List.getElem?_map, hc]; rfl
  have hz : (cs.map tD)[i + 1]? = some (tD cs[i + 1]) := by rw [List.getElem?_map, List.getElem?_eq_getElem hl2]; rfl
  obtain ⟨hr, hn⟩ := h.nx i _ _ hy hz
  rw [hR] at hr
  obtain ⟨q, l, s, r, e1, e2⟩ := hr
  obtain ⟨h1, h2, h3, h4⟩ := Knd.cf_inj e1
  rcases Tu.rule_cases hv.good c.1 c.2.2.1 with z | ⟨w, m, f, z, _⟩
  · rw [h1, h3] at z
    rw [KT.next_none z] at e2
    rw [e2] at hn
    cases hn
  · exact ⟨w, m, f, z⟩
theorem Full.re {c : Nat} {xs : List (Str × List Int)} (hok : M.ok = (Knd.re c xs).ok) (hk : k ≤ 15) (h : Full M d k rs x) : ∃ cs : List RC, rs = cs.map rD ∧ RRun c xs cs := by
  have ho : ∀ (i : Nat) (y : Dat), rs[i]? = some y → (Knd.re c xs).ok i y := fun i y hy => by
    have := h.ok i y hy
    rwa [hok] at this
  obtain ⟨cs, e⟩ := lift (f := rD) (rs := rs) fun i y hy => by
    obtain ⟨p, v, e, _⟩ := ho i y hy
    exact ⟨(p, v), e⟩
  have hp := h.pos
  have hl := h.len
  subst e
  rw [List.length_map] at hp hl
  refine ⟨cs, rfl, hp, by omega, fun i r hr => ?_⟩
  obtain ⟨p, v, e, z⟩ := ho i (rD r) (by rw [List.getElem?_map, hr]; rfl)
  obtain ⟨h1, h2⟩ := Knd.rc_inj e
  rw [h1, h2]
  exact z
end
def X_lim (CB : Addr) : XSig := fun ds o => ∃ n : Int, ds = [.int n] ∧ o = if 0 ≤ n ∧ n ≤ 300 then .val (· = .non) else .err CB none
def judD (p : Dat) : Dat := if isN p = true then .tup [.str "open"] else .tup [.str "loops", p]
def X_judge (CT CR CB : Addr) (K : PySem.W.Frag) : XSig := fun ds o => ∃ (M : Mc K (LS CT CR K)) (d : Dat) (n : Int), ds = [M.D, d, .int n] ∧
  ((¬ (0 ≤ n ∧ n ≤ 300) ∧ o = .err CB none) ∨ ∃ (k : Nat) (rows : List Dat) (x : Dat), n = (k : Int) ∧ k ≤ 14 ∧ Full M d k rows x ∧
    ((M.R x .non ∧ o = .val (· = .tup [.str "ends", .int ((rows.length - 1 : Nat) : Int)])) ∨ ∃ (e p : Dat), rows.length = k + 1 ∧ M.R x e ∧ isN e = false ∧ A_found CT CR [M.D, .lst rows] (· = p) ∧ o = .val (· = judD p)))
def A_orun (K : PySem.W.Frag) (L : ClsL) : Sig := fun ds P => ∃ (W : Knd) (M : Mc K L) (d : Dat) (k : Nat) (rows : List Dat) (x : Dat), W.valid ∧ M.R = W.R ∧ M.ok = W.ok ∧ k ≤ 15 ∧ Full M d k rows x ∧ ds = [.int W.sort, W.made, d, .int (k : Int)] ∧ P = (· = .lst rows)
section
variable {P : Program} {w : World} {K : PySem.W.Frag} {mg : Str → Option Value} {base : Heap} {C_Turing C_Registers C_InvalidMachine C_BadArgument : Addr}
theorem ok_found (QT : ∃ f, ClsQ K C_Turing f) (QR : ∃ f, ClsQ K C_Registers f) (D : Df K mg "_found" s_found) (T : Txt K w mg C_Turing C_Registers C_InvalidMachine C_BadArgument) (c_found_shift : C8.Cal P w K mg base 4 "_found_shift" (spOf Wd0 K (A_fsh C_Turing)) []) (c_found_growth : C8.Cal P w K mg base 4 "_found_growth" (spOf Wd0 K (A_fgr C_Registers)) []) : C8.Cal P w K mg base 5 "_found" (spOf Wd0 K (A_found C_Turing C_Registers)) [] := by
  obtain ⟨fT, hT⟩ := QT
  obtain ⟨fR, hR⟩ := QR
  refine cal_of D (fun _ _ _ _ _ _ us hl => match us, hl with | [_, _], _ => rfl) sc_found (spOf_len (n := 2) fun _ _ h => by
    rcases h with ⟨_, _, _, _, _, _, _, _, _, e, _⟩ | ⟨_, _, _, _, _, _, e, _⟩ <;> (rw [e]; rfl)) fun f cdv A outer s H0 vs Q E hr h => ⟨_, (pss_cons (ps_if (pt_val (pe_callB (r := rIsi K) call_isi (by rfl) T.n_isinstance (by decide +kernel) (pa_cons (pv 0) (pa_cons (pe_glob (v := .ref C_Turing) rfl T.g_Turing rfl) pa_nil)))) (pss_one (ps_ret (C8.pe_c c_found_shift hr (by decide) rfl (pa_cons (pv 0) (pa_cons (pv 1) pa_nil))))) pss_nil)
      (pss_cons (ps_if (pt_val (pe_callB (r := rIsi K) call_isi (by rfl) T.n_isinstance (by decide +kernel) (pa_cons (pv 0) (pa_cons (pe_glob (v := .ref C_Registers) rfl T.g_Registers rfl) pa_nil)))) (pss_one (ps_ret (C8.pe_c c_found_growth hr (by decide) rfl (pa_cons (pv 0) (pa_cons (pv 1) pa_nil))))) pss_nil)
      pss_never)), ?_⟩
  obtain ⟨G0, ds, P, k, rr, hc, q⟩ := h
  have S := S4.start (N := N_found) k rr
  rcases hc with h | h
  · have h2 := h
    obtain ⟨st, sy, rows, fsd, cs, o, _, _, _, rfl, rfl⟩ := h2
    refine q_when (b_Bx (v_isOwn hT (v_var (i := 0) (d := .obj C_Turing fsd) rfl))) S (fun _ G H S => ?_) (fun e => nomatch e)
    exact g_ret (v_call0x (a_consx (v_var (i := 0) (d := .obj C_Turing fsd) rfl) (a_consx (v_var (i := 1) (d := .lst (cs.map tD)) rfl) a_nil)) h) S q
  · have h2 := h
    obtain ⟨c, xs, cs, o, _, _, rfl, rfl⟩ := h2
    refine q_when (b_Bx (v_isCls hR T.ki_Registers_Turing (v_var (i := 0) (d := .obj C_Registers (KR.regF (c : Int) xs)) rfl))) S (fun e => nomatch e) fun _ G H S => ?_
    refine q_when (b_Bx (v_isOwn hR (v_var (i := 0) (d := .obj C_Registers (KR.regF (c : Int) xs)) rfl))) S (fun _ G H S => ?_) (fun e => nomatch e)
    exact g_ret (v_call0x (a_consx (v_var (i := 0) (d := .obj C_Registers (KR.regF (c : Int) xs)) rfl) (a_consx (v_var (i := 1) (d := .lst (cs.map rD)) rfl) a_nil)) h) S q
theorem ok_lim (D : Df K mg "_refuse_limit" s_refuse_limit) (T : Txt K w mg C_Turing C_Registers C_InvalidMachine C_BadArgument) : CalX P w K mg base 1 "_refuse_limit" (spX Wd0 K (X_lim C_BadArgument)) := by
  refine calx_of D (fun _ _ _ _ _ _ us hl => match us, hl with | [_], _ => rfl) sc_refuse_limit (spX_len (n := 1) fun _ _ ⟨_, e, _⟩ => by rw [e]; rfl) fun f cdv A outer s H0 vs Q E hr h => ⟨_, (pss_one (ps_if (pt_not (pt_chain op_le op_le pe_int (pv 0) (C8.pe_gc (v := .int 300) rfl T.m_GREATEST_LIMIT))) (pss_one (ps_raiseEN rfl (L2N.takes_of rfl rfl rfl rfl) T.e_BadArgument rfl)) pss_nil)), ?_⟩
  obtain ⟨G0, ds, o, k, r, ⟨n, rfl, rfl⟩, q⟩ := h
  have S := S4.start (N := N_refuse_limit) k r
  have hb : decide (0 ≤ n ∧ n ≤ 300) = (decide (0 ≤ n) && decide (n ≤ 300)) := by
    by_cases h1 : 0 ≤ n <;> by_cases h2 : n ≤ 300 <;> simp [h1, h2]
  refine g_if (P := (· = !decide (0 ≤ n ∧ n ≤ 300))) (EvBX.to (b_notx (b_testx (v_chain v_int (v_var (d := .int n) rfl) v_int r_le r_le))) (by rw [hb])) S (fun e G H S => ?_) fun e G H S => ?_
  · rw [if_neg (of_decide_eq_false ((Bool.not_eq_true' _).mp e.symm))] at q
    exact out_raise q S
  · rw [if_pos (of_decide_eq_true ((Bool.not_eq_false' _).mp e.symm))] at q
    exact out_val q S rfl .non
theorem ok_judge (D : Df K mg "judge" s_judge) (T : Txt K w mg C_Turing C_Registers C_InvalidMachine C_BadArgument) (c_refuse_limit : CalX P w K mg base 1 "_refuse_limit" (spX Wd0 K (X_lim C_BadArgument))) (c_history : CalX P w K mg base 5 "history" (spX Wd0 K (X_run K (LS C_Turing C_Registers K) C_BadArgument F_hist))) (c_P_step : MetP P w K mg base 4 "step" (LS C_Turing C_Registers K)) (c_found : C8.Cal P w K mg base 5 "_found" (spOf Wd0 K (A_found C_Turing C_Registers)) []) : CalX P w K mg base 6 "judge" (spX Wd0 K (X_judge C_Turing C_Registers C_BadArgument K)) := by
  refine calx_of D (fun _ _ _ _ _ _ us hl => match us, hl with | [_, _, _], _ => rfl) sc_judge (spX_len (n := 3) fun _ _ ⟨_, _, _, e, _⟩ => by rw [e]; rfl) fun f cdv A outer s H0 vs Q E hr h => ⟨_, (pss_cons (ps_expr (pe_cXP c_refuse_limit hr (by decide) (L2N.takes_of rfl rfl rfl rfl) rfl (pa_cons (pv 2) pa_nil)))
      (pss_cons (ps_set (i := 3) sc_judge.nd rfl (by first | exact Or.inl rfl | exact Or.inr rfl) (pe_cXP c_history hr (by decide) (L2N.takes_of rfl rfl rfl rfl) rfl (pa_cons (pv 0) (pa_cons (pv 1) (pa_cons (pv 2) pa_nil)))))
      (pss_cons (ps_if (PW.pt (pw_or (pt_cmpR op_le (pe_callB (r := Ly.rLen K) call_len_seq (by rfl) T.n_len PySem.boot_len (pa_cons (pv 3) pa_nil)) (pv 2) (nomark _)) (pw_or1 (pt_cmp (pc_isN (pe_mP c_P_step hr (by decide) (pv 0) (pa_cons (pe_ix (r := rIxL K) ix_list (pv 3) (pe_un un_neg pe_int) (fun _ _ => rfl)) pa_nil))))))) (pss_one (ps_ret (pe_tup (pa_cons pe_str (pa_cons (pe_op op_sub (pe_callB (r := Ly.rLen K) call_len_seq (by rfl) T.n_len PySem.boot_len (pa_cons (pv 3) pa_nil)) pe_int) pa_nil))))) pss_nil)
      (pss_cons (ps_set (i := 4) sc_judge.nd rfl (by first | exact Or.inl rfl | exact Or.inr rfl) (C8.pe_c c_found hr (by decide) rfl (pa_cons (pv 0) (pa_cons (pv 3) pa_nil))))
      (pss_cons (ps_if (pt_cmp (pc_isN (pv 4))) (pss_one (ps_ret (pe_tup (pa_cons pe_str pa_nil)))) pss_nil)
      (pss_one (ps_ret (pe_tup (pa_cons pe_str (pa_cons (pv 4) pa_nil)))))))))), ?_⟩
  obtain ⟨G0, ds, o, kk, r, ⟨M, d, n, rfl, hc⟩, q⟩ := h
  have S := S4.start (N := N_judge) kk r
  rcases hc with ⟨hn, rfl⟩ | ⟨k, rows, x, rfl, hk, hF, hc⟩
  · refine q_dropP (o := .err C_BadArgument none) (a_consx (v_var (i := 2) (d := .int n) rfl) a_nil) ⟨n, rfl, (if_neg hn).symm⟩ S (fun _ e => nomatch e) (fun C fs e d G H S h1 h2 => ?_)
    cases e
    exact q d G H S.stp h1 h2
  · refine q_dropP (o := .val (· = .non)) (a_consx (v_var (i := 2) (d := .int (k : Int)) rfl) a_nil) ⟨(k : Int), rfl, (if_pos (by omega)).symm⟩ S (fun _ _ G H S => ?_) (fun _ _ e => nomatch e)
    obtain ⟨h, hh⟩ : ∃ h : Bool, h = true ↔ M.R x .non := by
      by_cases z : M.R x .non
      · exact ⟨true, fun _ => z, fun _ => rfl⟩
      · exact ⟨false, (fun e => nomatch e), fun e => absurd e z⟩
    have hlen := hF.len
    have hpos := hF.pos
    refine q_setx (d := .lst rows) (v_callXx (a_consx (v_var (i := 0) (d := M.D) rfl) (a_consx (v_var (i := 1) (d := d) rfl) (a_consx (v_var (i := 2) (d := .int (k : Int)) rfl) a_nil))) ⟨M, d, k, rfl, .inr ⟨k, rows, x, h, rfl, by omega, hF, hh, rfl⟩⟩) S fun σ G H S => ?_
    have stepv : ∀ {Γ : List (Option Dat)} {e : Dat}, M.R x e → Γ[0]? = some (some M.D) → Γ[3]? = some (some (.lst rows)) → EvX Wd0 K (tMethP "step" (LS C_Turing C_Registers K) (tVar 0) (tCons (tOp (rIxL K) (tVar 3) (tUn (rU fun i => .int (-i)) (tC (.int 1)))) tNil)) Γ e := fun {Γ e} he h1 h2 => Ev.imp (v_methP (P := M.R x) M.mem (v_var h1) M.look (a_consx (v_lastL (ds := rows) (d := x) (v_var h2) (v_neg v_int) hpos hF.last) a_nil) fun ds e => by subst e; exact M.stp (by omega) (hF.ok _ _ hF.last)) fun e2 h2 => M.one h2 he
    rcases hc with ⟨hend, rfl⟩ | ⟨e, p, hl, he, hne, hA, rfl⟩
    · refine q_when (P := (· = true)) (EvBX.to (b_orx (b_testx (v_le (v_lenL (v_var (i := 3) (d := .lst rows) rfl)) (v_var (i := 2) (d := .int (k : Int)) rfl))) fun _ => b_testx (v_isNx (a := .non) (stepv hend rfl rfl))) (Bool.or_true _)) S (fun _ G H S => ?_) (fun e => nomatch e)
      refine g_ret (P := (· = .tup [.str "ends", .int ((rows.length - 1 : Nat) : Int)])) (EvX.to (v_tupx (a_consx v_str (a_consx (v_sub (v_lenL (v_var (i := 3) (d := .lst rows) rfl)) v_int) a_nil)) (by simp)) ?_) S q
      rw [show ((rows.length : Int) - 1) = ((rows.length - 1 : Nat) : Int) by omega]
    · refine q_when (P := (· = false)) (EvBX.to (b_orx (a := false) (b := false) (EvBX.to (b_testx (v_le (v_lenL (v_var (i := 3) (d := .lst rows) rfl)) (v_var (i := 2) (d := .int (k : Int)) rfl))) (decide_eq_false (by omega))) fun _ => EvBX.to (b_testx (v_isNx (a := e) (stepv he rfl rfl))) hne) rfl) S (fun e => nomatch e) fun _ G H S => ?_
      refine q_setx (d := p) (v_call0x (a_consx (v_var (i := 0) (d := M.D) rfl) (a_consx (v_var (i := 3) (d := .lst rows) rfl) a_nil)) hA) S fun σ G H S => ?_
      refine q_when (b_testx (v_isNx (v_var (i := 4) (d := p) rfl))) S (fun e2 G H S => ?_) fun e2 G H S => ?_
      · exact g_ret (P := (· = judD p)) (EvX.to (v_tupx (a_consx v_str a_nil) (by simp)) (by unfold judD; rw [if_pos e2.symm])) S q
      · exact g_ret (P := (· = judD p)) (EvX.to (v_tupx (a_consx v_str (a_consx (v_var (i := 4) (d := p) rfl) a_nil)) (by simp)) (by unfold judD; rw [if_neg (by rw [← e2]; decide)])) S q
theorem ok_ownrun {L : ClsL} (D : Df K mg "_law_own_run" s_law_own_run) (T : Txt K w mg C_Turing C_Registers C_InvalidMachine C_BadArgument) (c_law_table : C8.Cal P w K mg base 1 "_law_table" (spOf Wd0 K KT.A_table) []) (c_law_turing_step : C8.Cal P w K mg base 2 "_law_turing_step" (spOf Wd0 K KT.A_lstep) []) (c_law_registers_step : C8.Cal P w K mg base 1 "_law_registers_step" (spOf Wd0 K KR.A_rstep) []) : C8.Cal P w K mg base 3 "_law_own_run" (spOf Wd0 K (A_orun K L)) [] := by
  refine cal_of D (fun _ _ _ _ _ _ us hl => match us, hl with | [_, _, _, _], _ => rfl) sc_law_own_run (spOf_len (n := 4) fun _ _ ⟨_, _, _, _, _, _, _, _, _, _, _, e, _⟩ => by rw [e]; rfl) fun f cdv A outer s H0 vs Q E hr h => ⟨_, (pss_cons (ps_set (i := 4) sc_law_own_run.nd rfl (by first | exact Or.inl rfl | exact Or.inr rfl) (pe_lst (pa_cons (pv 2) pa_nil)))
      (pss_cons (ps_set (i := 5) sc_law_own_run.nd rfl (by first | exact Or.inl rfl | exact Or.inr rfl) pe_dnewT)
      (Evl.pss_cut (ps_if (pt_cmpR op_eq (pv 0) pe_int (nomark _)) (pss_one (ps_set (i := 5) sc_law_own_run.nd rfl (by first | exact Or.inl rfl | exact Or.inr rfl) (C8.pe_c c_law_table hr (by decide) rfl (pa_cons (pv 1) pa_nil)))) pss_nil)
      (Evl.pss_cut (ps_for PassesOwn.never rfl (pi_range1 rfl T.n_range (pa_cons (pv 3) pa_nil)) (pg_name (i := 6) sc_law_own_run.nd rfl (by first | exact Or.inl rfl | exact Or.inr rfl))
        (Evl.pss_cut (ps_if (pt_cmpR op_eq (pv 0) pe_int (nomark _)) (pss_one (ps_set (i := 7) sc_law_own_run.nd rfl (by first | exact Or.inl rfl | exact Or.inr rfl) (C8.pe_c c_law_turing_step hr (by decide) rfl (pa_cons (pv 5) (pa_cons (pe_ix (r := rIxL K) ix_list (pv 4) (pe_un un_neg pe_int) (fun _ _ => rfl)) pa_nil))))) (pss_one (ps_set (i := 7) sc_law_own_run.nd rfl (by first | exact Or.inl rfl | exact Or.inr rfl) (C8.pe_c c_law_registers_step hr (by decide) rfl (pa_cons (pv 1) (pa_cons (pe_ix (r := rIxL K) ix_list (pv 4) (pe_un un_neg pe_int) (fun _ _ => rfl)) pa_nil))))))
      (pss_cons (ps_if (pt_cmp (pc_isN (pv 7))) (pss_one ps_break) pss_nil)
      (pss_one (ps_expr (pe_bm PySem.F.plainAttrs_list PySem.F.slot_list_append PySem.F.type_list_append mt_append (pv 4) (pa_cons (pv 7) pa_nil)))))))
      (pss_one (ps_ret (pv 4))))))), ?_⟩
  obtain ⟨G0, ds, P, kk, r, ⟨W, M, d, k, rows, x, hv, hR, hok, hk, hF, rfl, rfl⟩, q⟩ := h
  have S := S4.start (N := N_law_own_run) kk r
  have hlen := hF.len
  refine q_setN (P := (· = [d])) (n_lst (a_consx (v_var (i := 2) (d := d) rfl) a_nil) fun ds e => by rw [e]; simp) S fun l ds σ G H e S => ?_
  subst e
  refine q_newDF S fun σ G H S => ?_
  have t1 : rows.take 1 = [d] := by
    have h0 := hF.zero
    cases rows with
    | nil => simp at h0
    | cons a r =>
      cases h0
      rfl
  refine q_cut (fun σ H => ∃ (td : Dat) (G : Hp), (∀ st sy rws, W = .tu st sy rws → ∃ es, td = .dct es ∧ Tu.Look rws es) ∧ S4 Wd0 K G0 G0 H0 [some (.int W.sort), some W.made, some d, some (.int (k : Int)), some (.adr l), some td, none, none] [(l, [d])] σ G H) ?_ ?_
  · match W, hv, S with
    | .tu st sy rws, hv, S =>
      refine g_if (EvBX.to (b := true) (b_testx (v_eqI (v_var (i := 0) (d := .int 0) rfl) v_int)) rfl) S (fun _ G H S => ?_) (fun e => nomatch e)
      refine g_set (P := fun d => ∃ es, d = .dct es ∧ Tu.Look rws es) (v_call0x (a_consx (v_var (i := 1) (d := .lst (rws.map rowD)) rfl) a_nil) ⟨st, sy, rws, hv, rfl, rfl⟩) S fun td σ G H htd S => ?_
      exact ⟨td, G, (fun st2 sy2 rws2 e => by cases e; exact htd), S⟩
    | .re c xs, hv, S =>
      refine g_if (EvBX.to (b := false) (b_testx (v_eqI (v_var (i := 0) (d := .int 1) rfl) v_int)) rfl) S (fun e => nomatch e) fun _ G H S => ?_
      exact ⟨_, G, (fun st2 sy2 rws2 e => by cases e), S⟩
  rintro σ H ⟨td, G, htd, S⟩
  refine q_cut (Word Wd0 K G0 G0 H0 fun Γ O => O = [(l, rows)] ∧ Γ[4]? = some (some (.adr l))) ?_ ?_
  · refine g_for1 (n := (k : Int)) (a_consx (v_var (i := 3) rfl) a_nil) (by omega) S (fun i Γ O => O = [(l, rows.take (i + 1))] ∧ i < rows.length ∧ ∃ z1 z2, Γ = [some (.int W.sort), some W.made, some d, some (.int (k : Int)), some (.adr l), some td, z1, z2]) ⟨by rw [t1], hF.pos, none, none, rfl⟩ ?_ ?_ (by omega)
    · rintro i Γ O σ G H hi ⟨rfl, hlt, z1, z2, rfl⟩ S
      have hcc : rows[i]? = some rows[i] := List.getElem?_eq_getElem hlt
      generalize rows[i] = c at hcc
      have hoc := hF.ok i c hcc
      have hoW : W.ok i c := by rw [← hok]; exact hoc
      have htl : (rows.take (i + 1)).length = i + 1 := by rw [List.length_take]; omega
      have nle : ∀ e, M.R c e → NL e := fun e he => by
        rw [hR] at he
        rcases Knd.nxt hv hoW he with rfl | ⟨_, h2⟩
        · rw [NL]; trivial
        · exact Knd.nl h2
      have lst : ∀ {Γ : List (Option Dat)}, Γ[4]? = some (some (.lst (rows.take (i + 1)))) → EvX Wd0 K (tOp (rIxL K) (tVar 4) (tUn (rU fun i => .int (-i)) (tC (.int 1)))) Γ c := fun h => v_lastL (ds := rows.take (i + 1)) (d := c) (v_var h) (v_neg v_int) (by omega) (by rw [htl, Nat.add_sub_cancel, List.getElem?_take, if_pos (by omega)]; exact hcc)
      refine q_cut (fun σ H => ∃ (e : Dat) (G : Hp), M.R c e ∧ S4 Wd0 K G0 G0 H0 [some (.int W.sort), some W.made, some d, some (.int (k : Int)), some (.adr l), some td, some (.int (i : Int)), some e] [(l, rows.take (i + 1))] σ G H) ?_ ?_
      · match W, hv, hR, hoW, htd, S with
        | .tu st sy rws, hv, hR, hoW, htd, S =>
          obtain ⟨es, rfl, hL⟩ := htd _ _ _ rfl
          obtain ⟨a, l2, s2, r2, rfl, hcf⟩ := hoW
          refine g_if (EvBX.to (b := true) (b_testx (v_eqI (v_var (i := 0) (d := .int 0) rfl) v_int)) rfl) S (fun _ G H S => ?_) (fun e => nomatch e)
          refine g_setL (i := 4) (j := 7) (P := M.R (Tu.cfD a l2 s2 r2)) rfl List.mem_cons_self (Ev.imp (v_call0x (P := (· = Tu.nextD rws a l2 s2 r2)) (a_consx (v_var (i := 5) (d := .dct es) rfl) (a_consx (lst rfl) a_nil)) ⟨st, sy, rws, es, a, s2, l2, r2, hL, hv.good, KT.Cf.weak hcf (by omega), rfl, rfl⟩) fun e he => by rw [hR]; exact ⟨a, l2, s2, r2, rfl, he⟩) nle S fun e σ G H he S => ?_
          exact ⟨e, G, he, S⟩
        | .re cc xs, hv, hR, hoW, htd, S =>
          obtain ⟨pl, vs2, rfl, hcf⟩ := hoW
          refine g_if (EvBX.to (b := false) (b_testx (v_eqI (v_var (i := 0) (d := .int 1) rfl) v_int)) rfl) S (fun e => nomatch e) fun _ G H S => ?_
          refine g_setL (i := 4) (j := 7) (P := M.R (rD (pl, vs2))) rfl List.mem_cons_self (Ev.imp (v_call0x (P := (· = KR.cfD (KR.regStep xs pl vs2))) (a_consx (v_var (i := 1) (d := .lst (KR.insD xs)) rfl) (a_consx (lst rfl) a_nil)) ⟨cc, pl, xs, vs2, hcf, rfl, rfl⟩) fun e he => by rw [hR]; exact ⟨pl, vs2, rfl, he⟩) nle S fun e σ G H he S => ?_
          exact ⟨e, G, he, S⟩
      · rintro σ H ⟨e, G, he, S⟩
        rcases hF.next hcc (by omega) he with ⟨rfl, rfl, hl⟩ | ⟨hn, hi1⟩
        · rw [hl, List.take_length] at S
          exact q_if (b_Bx (v_isNx (v_var (i := 7) (d := .non) rfl))) S (fun _ G H S => ⟨_, _, _, ⟨rfl, rfl⟩, S⟩) (fun h => nomatch h)
        · refine q_if (EvBX.to (b := false) (b_Bx (v_isNx (v_var (i := 7) (d := e) rfl))) hn) S (fun h => nomatch h) fun _ G H S => ?_
          refine g_app (P := (· = e)) (v_var (i := 4) rfl) (v_var (i := 7) (d := e) rfl) S (by omega) fun e2 G H e3 S => ?_
          subst e3
          refine ⟨_, _, _, ⟨?_, (List.getElem?_eq_some_iff.mp hi1).1, _, _, rfl⟩, S⟩
          rw [List.take_add_one (i := i + 1), hi1]
          rfl
    · rintro Γ O σ G H ⟨rfl, hlt, z1, z2, rfl⟩ S
      rw [Int.toNat_natCast] at *
      rw [List.take_of_length_le (by omega)] at S
      exact ⟨_, _, _, ⟨rfl, rfl⟩, S⟩
  · rintro σ H ⟨Γ, O, G, ⟨rfl, h1⟩, S⟩
    obtain ⟨G, S⟩ := S4.keep (i := 4) h1 S
    have hl3 : 4 < Γ.length := by
      rcases Nat.lt_or_ge 4 Γ.length with z | z
      · exact z
      · rw [List.getElem?_eq_none z] at h1
        cases h1
    exact g_ret (P := (· = .lst rows)) (v_var (i := 4) (List.getElem?_set_self hl3)) S q
end
end K89

set_option maxHeartbeats 4000000
namespace K89
open PySem L2 Ly
/-! ## the law's papers -/
def A_places : Sig := fun ds P => ∃ (st sy : Int) (rows : List (List Int)) (cs : List TC), KT.Mok st sy rows ∧ TRun st sy rows cs ∧ ds = [.lst (rows.map rowD), .lst (cs.map tD)] ∧ P = (· = .lst (Ly.dI (heads (msOf rows cs))))
def A_sym : Sig := fun ds P => ∃ (c : TC) (h p : Int), c.2.1.length ≤ 1000 ∧ c.2.2.2.length ≤ 1000 ∧ ds = [tD c, .int h, .int p] ∧ P = (· = .int (sym c (p - h)))
def rtT (rows : List (List Int)) (cs : List TC) (w : Str) (i j : Nat) : Bool := if w = "repeat" then sameAt cs i j else if w = "shift" then shP rows cs i j else false
def rtR (xs : List (Str × List Int)) (cs : List RC) (w : Str) (i j : Nat) : Bool := if w = "repeat" then sameAt cs i j else if w = "growth" then grP xs cs i j else false
/-- a run, and which papers are right of it -/
inductive Rn : Int → Dat → List Dat → (Str → Nat → Nat → Bool) → Prop where
  | tu {st sy : Int} {rows : List (List Int)} {cs : List TC} (h : KT.Mok st sy rows) (r : TRun st sy rows cs) : Rn 0 (.lst (rows.map rowD)) (cs.map tD) (rtT rows cs)
  | re {c : Nat} {xs : List (Str × List Int)} {cs : List RC} (r : RRun c xs cs) : Rn 1 (.lst (KR.insD xs)) (cs.map rD) (rtR xs cs)
def words : List Str := ["repeat", "growth", "shift"]
def A_right : Sig := fun ds P => ∃ (s : Int) (made : Dat) (run : List Dat) (rt : Str → Nat → Nat → Bool) (w : Str) (i j : Nat), Rn s made run rt ∧ w ∈ words ∧ i < j ∧ j < run.length ∧ ds = [.int s, made, .lst run, .tup [.str w, .int (i : Int), .int (j : Int)]] ∧ P = (· = .bl (rt w i j))
def A_sought : Sig := fun ds P => ∃ (s : Int) (made : Dat) (run : List Dat) (rt : Str → Nat → Nat → Bool) (limit : Nat) (kind : Str) (B same : Nat → Nat → Bool) (o : Option (Nat × Nat)), Rn s made run rt ∧ 0 < run.length ∧ run.length ≤ limit + 1 ∧ limit ≤ 1000 ∧
  (∀ i j, rt "repeat" i j = same i j) ∧ (∀ w i j, i < j → j < run.length → rt w i j = true → (w = "repeat" ∨ w = kind) ∧ B i j = true) ∧ (∀ i j, B i j = true → ∃ w, w ∈ words ∧ rt w i j = true) ∧ Fst run.length B o ∧
  ds = [.int s, made, .lst run, .int (limit : Int)] ∧ P = (· = papD kind same o)
theorem Look.deed {rows : List (List Int)} {es : List (List Key × Dat)} (h : Tu.Look rows es) {q s w m f : Int} (hr : Tu.ruleOf rows q s = some [q, s, w, m, f]) : valD es (iK [q, s]) = some (.tup [.int w, .int m, .int f]) := by
  have z := Tu.LookV.deed h q s
  rw [KT.deed_some hr] at z
  cases e : valD es (iK [q, s]) with
  | none => rw [e] at z; cases z
  | some d =>
    rw [e] at z
    have z : d = _ := z
    rw [z]
theorem es_slice {xs : List (Str × List Int)} {cs : List RC} {i j : Nat} (hj : j < cs.length) : ((esOf xs cs).drop i).take (j - i) = ((cs.drop i).take (j - i)).map (empt xs) := by
  unfold esOf
  rw [← List.map_drop, ← List.map_take, List.drop_take, List.take_take]
  congr 2
  omega
theorem less_count (us vs : List Int) (h : us.length = vs.length) : decide (0 < ((List.range us.length).filter fun k => decide (vs.getD k 0 < us.getD k 0)).length) = !((us.zip vs).all fun p => decide (p.1 ≤ p.2)) := by
  have key : (0 < ((List.range us.length).filter fun k => decide (vs.getD k 0 < us.getD k 0)).length) ↔ ¬ ((us.zip vs).all fun p => decide (p.1 ≤ p.2)) = true := by
    rw [List.all_eq_true, List.length_pos_iff_exists_mem]
    constructor
    · rintro ⟨k, hk⟩ hall
      rw [List.mem_filter, List.mem_range, decide_eq_true_eq] at hk
      obtain ⟨h1, h2⟩ := hk
      have e1 : us[k]? = some us[k] := List.getElem?_eq_getElem h1
      have e2 : vs[k]? = some (vs[k]'(by omega)) := List.getElem?_eq_getElem (by omega)
      have := hall _ (List.mem_of_getElem? (zip_all h k e1 e2))
      rw [decide_eq_true_eq] at this
      simp only [List.getD_eq_getElem?_getD, e1, e2, Option.getD_some] at h2
      dsimp only at this
      omega
    · intro hn
      rw [Classical.not_forall] at hn
      obtain ⟨p, hp⟩ := hn
      rw [Classical.not_imp] at hp
      obtain ⟨hm, hp⟩ := hp
      rw [decide_eq_true_eq] at hp
      obtain ⟨k, hk⟩ := List.mem_iff_getElem?.mp hm
      rw [List.getElem?_zip_eq_some] at hk
      refine ⟨k, ?_⟩
      rw [List.mem_filter, List.mem_range, decide_eq_true_eq]
      refine ⟨(List.getElem?_eq_some_iff.mp hk.1).1, ?_⟩
      simp only [List.getD_eq_getElem?_getD, hk.1, hk.2, Option.getD_some]
      omega
  cases e : (us.zip vs).all fun p => decide (p.1 ≤ p.2) with
  | true =>
    rw [decide_eq_false]
    · rfl
    · intro z
      exact key.mp z e
  | false =>
    rw [decide_eq_true]
    · rfl
    · exact key.mpr (by rw [e]; decide)
section
variable {P : Program} {w : World} {K : PySem.W.Frag} {mg : Str → Option Value} {base : Heap} {C_Turing C_Registers C_InvalidMachine C_BadArgument : Addr}
theorem ok_places (D : Df K mg "_law_places" s_law_places) (T : Txt K w mg C_Turing C_Registers C_InvalidMachine C_BadArgument) (c_law_table : C8.Cal P w K mg base 1 "_law_table" (spOf Wd0 K KT.A_table) []) : C8.Cal P w K mg base 2 "_law_places" (spOf Wd0 K A_places) [] := by
  refine cal_of D (fun _ _ _ _ _ _ us hl => match us, hl with | [_, _], _ => rfl) sc_law_places (spOf_len (n := 2) fun _ _ ⟨_, _, _, _, _, _, e, _⟩ => by rw [e]; rfl) fun f cdv A outer s H0 vs Q E hr h => ⟨_, (pss_cons (ps_set (i := 2) sc_law_places.nd rfl (by first | exact Or.inl rfl | exact Or.inr rfl) (C8.pe_c c_law_table hr (by decide) rfl (pa_cons (pv 0) pa_nil)))
      (pss_cons (ps_set (i := 3) sc_law_places.nd rfl (by first | exact Or.inl rfl | exact Or.inr rfl) (pe_lst (pa_cons pe_int pa_nil)))
      (pss_cons (ps_for PassesOwn.never rfl (pi_list (pe_slice (r := rSlL K) sl_list (pv 1) po_none (po_some (pe_un un_neg pe_int)))) (pg_name (i := 4) sc_law_places.nd rfl (by first | exact Or.inl rfl | exact Or.inr rfl))
        (pss_one (ps_expr (pe_bm PySem.F.plainAttrs_list PySem.F.slot_list_append PySem.F.type_list_append mt_append (pv 3) (pa_cons (pe_op op_add (pe_ix (r := rIxL K) ix_list (pv 3) (pe_un un_neg pe_int) (fun _ _ => rfl)) (pe_ix (r := rIxT K) ix_tup (pe_dget (units1 hr) (pv 2) (pe_tup (pa_cons (pe_ix (r := rIxT K) ix_tup (pv 4) pe_int (fun _ _ => rfl)) (pa_cons (pe_ix (r := rIxT K) ix_tup (pv 4) pe_int (fun _ _ => rfl)) pa_nil))) (fun _ _ => rfl)) pe_int (fun _ _ => rfl))) pa_nil)))))
      (pss_one (ps_ret (pv 3)))))), ?_⟩
  obtain ⟨G0, ds, P, k, r, ⟨st, sy, rows, cs, hM, hR, rfl, rfl⟩, q⟩ := h
  have S := S4.start (N := N_law_places) k r
  have hms := ms_len rows cs
  have hlen := hR.len
  have hpos := hR.pos
  refine q_set (P := fun d => ∃ es, d = .dct es ∧ Tu.Look rows es) (v_call0x (a_consx (v_var (i := 0) (d := .lst (rows.map rowD)) rfl) a_nil) ⟨st, sy, rows, hM, rfl, rfl⟩) S fun td σ G H ⟨es, ed, hL⟩ S => ?_
  subst ed
  refine q_setN (P := (· = [.int 0])) (n_lst (a_consx v_int a_nil) fun ds e => by rw [e]; simp) S fun l ds σ G H e S => ?_
  subst e
  refine q_forL (ds := (cs.take (cs.length - 1)).map tD) (EvX.to (n_slL (v_var (i := 1) (d := .lst (cs.map tD)) rfl) o_none (o_some (v_neg v_int))) (by rw [cutD_last, List.length_map, List.map_take])) S (fun i Γ O => O = [(l, dI (heads ((msOf rows cs).take i)))] ∧ ∃ z, Γ = [some (.lst (rows.map rowD)), some (.lst (cs.map tD)), some (.dct es), some (.adr l), z]) ⟨rfl, none, rfl⟩ ?_ ?_
  · rintro G1 i d Γ O σ G H hdd ⟨rfl, z, rfl⟩ S
    rw [List.getElem?_map] at hdd
    obtain ⟨c, hc, rfl⟩ := Option.map_eq_some_iff.mp hdd
    have hlt := (List.getElem?_eq_some_iff.mp hc).1
    rw [List.length_take] at hlt
    have hc2 : cs[i]? = some c := by
      rw [List.getElem?_take] at hc
      split at hc
      · exact hc
      · cases hc
    obtain ⟨w, m, f, hru⟩ := hR.ru i c hc2 (by omega)
    have hm : (msOf rows cs)[i]? = some m := by
      unfold msOf
      rw [List.getElem?_map, hc, Option.map_some, mv_of hru]
    have htl : ((msOf rows cs).take i).length = i := by rw [List.length_take]; omega
    refine g_appX (v_var rfl) S fun G2 H2 S Q2 q2 => ?_
    refine S4.look (P := (· = .int (hd ((msOf rows cs).take i) i + m))) (i := 3) (l := l) (ds := dI (heads ((msOf rows cs).take i))) rfl List.mem_cons_self (v_add (v_lastL (ds := dI (heads ((msOf rows cs).take i))) (d := .int (hd ((msOf rows cs).take i) i)) (v_var rfl) (v_neg v_int) (by rw [List.length_map, heads_len]; omega) (by
      rw [List.length_map, heads_len, htl, List.getElem?_map, Nat.add_sub_cancel, heads_at (by omega)]
      rfl)) (v_ixT (j := 1) (d := .int m) (v_ixKT (ns := [c.1, c.2.2.1]) (d := .tup [.int w, .int m, .int f]) (v_var (i := 2) (d := .dct es) rfl) (a_consx (v_ix0 (d := .int c.1) (v_var (i := 4) (d := tD c) rfl) rfl) (a_consx (v_ixT (j := 2) (d := .int c.2.2.1) (v_var (i := 4) (d := tD c) rfl) v_int rfl rfl) a_nil)) (by simp) (Look.deed hL hru)) v_int rfl rfl)) (fun d e => by rw [e]; exact nl_int _) S fun v d G3 H3 S3 e r => q2 v d _ G3 H3 S3 (by rw [List.length_map, heads_len]; omega) r fun G4 H4 S4 => ?_
    refine ⟨_, _, _, ⟨?_, _, rfl⟩, S4⟩
    rw [e, List.take_succ, hm, Option.toList_some, heads_app, htl]
    show _ = [(l, List.map Dat.int _)]
    rw [List.map_append]
    rfl
  · rintro Γ O σ G H ⟨rfl, z, rfl⟩ S
    rw [List.length_map, List.length_take, List.take_of_length_le (by omega)] at S
    obtain ⟨G, S⟩ := S4.keep (i := 3) rfl S
    exact g_ret (P := (· = .lst (dI (heads (msOf rows cs))))) (v_var (i := 3) rfl) S q
theorem ok_sym (D : Df K mg "_law_symbol_at" s_law_symbol_at) (T : Txt K w mg C_Turing C_Registers C_InvalidMachine C_BadArgument) : C8.Cal P w K mg base 1 "_law_symbol_at" (spOf Wd0 K A_sym) [] := by
  refine cal_of D (fun _ _ _ _ _ _ us hl => match us, hl with | [_, _, _], _ => rfl) sc_law_symbol_at (spOf_len (n := 3) fun _ _ ⟨_, _, _, _, _, e, _⟩ => by rw [e]; rfl) fun f cdv A outer s H0 vs Q E hr h => ⟨_, (pss_cons (ps_if (pt_cmpR op_eq (pv 2) (pv 1) (nomark _)) (pss_one (ps_ret (pe_ix (r := rIxT K) ix_tup (pv 0) pe_int (fun _ _ => rfl)))) pss_nil)
      (pss_cons (ps_set (i := 3) sc_law_symbol_at.nd rfl (by first | exact Or.inl rfl | exact Or.inr rfl) (pe_ix (r := rIxT K) ix_tup (pv 0) pe_int (fun _ _ => rfl)))
      (Evl.pss_cut (ps_if (pt_cmpR op_lt (pv 2) (pv 1) (nomark _)) (pss_one (ps_set (i := 3) sc_law_symbol_at.nd rfl (by first | exact Or.inl rfl | exact Or.inr rfl) (pe_ix (r := rIxT K) ix_tup (pv 0) pe_int (fun _ _ => rfl)))) pss_nil)
      (pss_cons (ps_set (i := 4) sc_law_symbol_at.nd rfl (by first | exact Or.inl rfl | exact Or.inr rfl) (pe_op op_sub (pe_callB call_abs (by rfl) T.n_abs (by decide +kernel) (pa_cons (pe_op op_sub (pv 2) (pv 1)) pa_nil)) pe_int))
      (pss_cons (ps_if (pt_cmpR op_lt (pv 4) (pe_callB (r := Ly.rLen K) call_len_seq (by rfl) T.n_len PySem.boot_len (pa_cons (pv 3) pa_nil)) (nomark _)) (pss_one (ps_ret (pe_ix (r := rIxT K) ix_tup (pv 3) (pv 4) (fun _ _ => rfl)))) pss_nil)
      (pss_one (ps_ret pe_int))))))), ?_⟩
  obtain ⟨G0, ds, P, k, rr, ⟨⟨a, l, s, r⟩, h, p, hl, hrl, rfl, rfl⟩, q⟩ := h
  have S := S4.start (N := N_law_symbol_at) k rr
  refine q_when (b_testx (v_eqI (v_var (i := 2) (d := .int p) rfl) (v_var (i := 1) (d := .int h) rfl))) S (fun e G H S => ?_) fun e G H S => ?_
  · have e := of_decide_eq_true e.symm
    refine g_ret (P := (· = .int (sym (a, l, s, r) (p - h)))) (EvX.to (v_ixT (j := 2) (d := .int s) (v_var (i := 0) (d := tD (a, l, s, r)) rfl) v_int rfl rfl) ?_) S q
    unfold sym
    rw [if_pos (by omega)]
  have e := of_decide_eq_false e.symm
  refine q_setx (d := .tup (dI r)) (v_ixT (j := 3) (v_var (i := 0) (d := tD (a, l, s, r)) rfl) v_int rfl rfl) S fun σ G H S => ?_
  refine q_cut (fun σ H => ∃ (ys : List Int) (G : Hp), (∀ x : Int, x = (if p - h < 0 then -(p - h) else p - h) - 1 → sym (a, l, s, r) (p - h) = ys.getD x.toNat 0) ∧ S4 Wd0 K G0 G0 H0 [some (tD (a, l, s, r)), some (.int h), some (.int p), some (.tup (dI ys)), none] [] σ G H) ?_ ?_
  · refine g_if (b_testx (v_lt (v_var (i := 2) (d := .int p) rfl) (v_var (i := 1) (d := .int h) rfl))) S (fun e2 G H S => ?_) fun e2 G H S => ?_
    · have e2 := of_decide_eq_true e2.symm
      refine g_setx (d := .tup (dI l)) (v_ixT (j := 1) (v_var (i := 0) (d := tD (a, l, s, r)) rfl) v_int rfl rfl) S fun σ G H S => ⟨l, G, fun x hx => ?_, S⟩
      unfold sym
      rw [if_neg (by omega), if_pos (by omega)]
      rw [if_pos (by omega)] at hx
      rw [hx]
    · have e2 := of_decide_eq_false e2.symm
      refine ⟨r, G, fun x hx => ?_, S⟩
      unfold sym
      rw [if_neg (by omega), if_neg (by omega)]
      rw [if_neg (by omega)] at hx
      rw [hx]
  · rintro σ H ⟨ys, G, hy, S⟩
    generalize hx : (if p - h < 0 then -(p - h) else p - h) - 1 = x at hy
    have x0 : 0 ≤ x := by
      rw [← hx]
      split <;> omega
    refine q_setx (d := .int x) (EvX.to (v_sub (v_abs (v_sub (v_var (i := 2) (d := .int p) rfl) (v_var (i := 1) (d := .int h) rfl))) v_int) (by rw [hx])) S fun σ G H S => ?_
    have hy := hy x rfl
    refine q_when (b_testx (v_lt (v_var (i := 4) (d := .int x) rfl) (v_lenT (v_var (i := 3) (d := .tup (dI ys)) rfl)))) S (fun e3 G H S => ?_) fun e3 G H S => ?_
    · have e3 := of_decide_eq_true e3.symm
      rw [List.length_map] at e3
      have hj : x.toNat < ys.length := by omega
      refine g_ret (P := (· = .int (sym (a, l, s, r) (p - h)))) (EvX.to (v_ixT (ds := dI ys) (j := x.toNat) (d := .int ys[x.toNat]) (v_var (i := 3) rfl) (v_var (i := 4) (d := .int x) rfl) (by omega) (by rw [List.getElem?_map, List.getElem?_eq_getElem hj]; rfl)) ?_) S q
      rw [hy, List.getD_eq_getElem?_getD, List.getElem?_eq_getElem hj]
      rfl
    · have e3 := of_decide_eq_false e3.symm
      rw [List.length_map] at e3
      refine g_ret (P := (· = .int (sym (a, l, s, r) (p - h)))) (EvX.to v_int ?_) S q
      rw [hy, getD_none (by omega)]
end
end K89

set_option maxHeartbeats 4000000
namespace K89
open PySem L2 Ly
theorem heads_bd {st sy : Int} {rows : List (List Int)} {cs : List TC} (hM : KT.Mok st sy rows) (hR : TRun st sy rows cs) : ∀ {i : Nat}, i ≤ cs.length - 1 → -(i : Int) ≤ hd (msOf rows cs) i ∧ hd (msOf rows cs) i ≤ (i : Int)
  | 0, _ => by
    unfold hd
    rw [List.take_zero]
    exact ⟨Int.le_refl _, Int.le_refl _⟩
  | i + 1, h => by
    obtain ⟨h1, h2⟩ := heads_bd hM hR (i := i) (by omega)
    have hp := hR.pos
    obtain ⟨c, hc⟩ : ∃ c, cs[i]? = some c := ⟨_, List.getElem?_eq_getElem (by omega)⟩
    obtain ⟨w, m, f, hru⟩ := hR.ru i c hc (by omega)
    have hm : (msOf rows cs)[i]? = some m := by
      unfold msOf
      rw [List.getElem?_map, List.getElem?_take, if_pos (by omega), hc, Option.map_some, mv_of hru]
    rw [hd_next hm]
    rcases Tu.rule_cases hM.good c.1 c.2.2.1 with z | ⟨w2, m2, f2, z, _, hm2, _⟩
    · rw [hru] at z
      cases z
    · rw [hru] at z
      cases z
      omega
section
variable {P : Program} {w : World} {K : PySem.W.Frag} {mg : Str → Option Value} {base : Heap} {C_Turing C_Registers C_InvalidMachine C_BadArgument : Addr}
theorem ok_right (D : Df K mg "_law_right_paper" s_law_right_paper) (T : Txt K w mg C_Turing C_Registers C_InvalidMachine C_BadArgument) (c_law_places : C8.Cal P w K mg base 2 "_law_places" (spOf Wd0 K A_places) []) (c_law_symbol_at : C8.Cal P w K mg base 1 "_law_symbol_at" (spOf Wd0 K A_sym) []) : C8.Cal P w K mg base 3 "_law_right_paper" (spOf Wd0 K A_right) [] := by
  refine cal_of D (fun _ _ _ _ _ _ us hl => match us, hl with | [_, _, _, _], _ => rfl) sc_law_right_paper (spOf_len (n := 4) fun _ _ ⟨_, _, _, _, _, _, _, _, _, _, _, e, _⟩ => by rw [e]; rfl) fun f cdv A outer s H0 vs Q E hr h => ⟨_, (pss_cons (ps_asg (pv 3) (pg_tup rfl (pgs_cons (pg_name (i := 4) sc_law_right_paper.nd rfl (by first | exact Or.inl rfl | exact Or.inr rfl)) (pgs_cons (pg_name (i := 5) sc_law_right_paper.nd rfl (by first | exact Or.inl rfl | exact Or.inr rfl)) (pgs_cons (pg_name (i := 6) sc_law_right_paper.nd rfl (by first | exact Or.inl rfl | exact Or.inr rfl)) pgs_nil)))))
      (pss_cons (ps_if (PW.pt (pw_or (pt_cmpR op_lt (pv 5) pe_int (nomark _)) (pw_or (pt_cmpR op_ge (pv 5) (pv 6) (nomark _)) (pw_or1 (pt_cmpR op_ge (pv 6) (pe_callB (r := Ly.rLen K) call_len_seq (by rfl) T.n_len PySem.boot_len (pa_cons (pv 2) pa_nil)) (nomark _)))))) (pss_one (ps_ret pe_bl)) pss_nil)
      (pss_cons (ps_set (i := 7) sc_law_right_paper.nd rfl (by first | exact Or.inl rfl | exact Or.inr rfl) (pe_ix (r := rIxL K) ix_list (pv 2) (pv 5) (fun _ _ => rfl)))
      (pss_cons (ps_set (i := 8) sc_law_right_paper.nd rfl (by first | exact Or.inl rfl | exact Or.inr rfl) (pe_ix (r := rIxL K) ix_list (pv 2) (pv 6) (fun _ _ => rfl)))
      (pss_cons (ps_if (pt_cmpR op_eq (pv 4) pe_str (nomark _)) (pss_one (ps_ret (pe_cmpR (op_eqD hr.units) (pv 7) (pv 8) (nomark _)))) pss_nil)
      (pss_cons (ps_if (PW.pt (pw_and (pt_cmpR op_eq (pv 4) pe_str (nomark _)) (pw_and1 (pt_cmpR op_eq (pv 0) pe_int (nomark _))))) (pss_cons (ps_if (PW.pt (pw_or (pt_cmpR op_ne (pe_ix (r := rIxT K) ix_tup (pv 7) pe_int (fun _ _ => rfl)) (pe_ix (r := rIxT K) ix_tup (pv 8) pe_int (fun _ _ => rfl)) (nomark _)) (pw_or1 (pt_cmpR op_gt (pe_callB (r := Ly.rLen K) call_len_seq (by rfl) T.n_len PySem.boot_len (pa_cons (pe_lc (own := [("k", 18)]) (g := gName 18) rfl sc_law_right_paper.nd (pi_range1 rfl T.n_range (pa_cons (pe_callB (r := Ly.rLen K) call_len_seq (by rfl) T.n_len PySem.boot_len (pa_cons (pe_ix (r := rIxT K) ix_tup (pv 7) pe_int (fun _ _ => rfl)) pa_nil)) pa_nil)) (blkOk_by (N := N_law_right_paper) (sc := defScope s_law_right_paper) (by decide +kernel)) (fun _ _ _ _ _ => pg_name (i := 18) sc_law_right_paper.nd rfl (Or.inl rfl)) (fun _ _ _ _ _ => pts_one (pt_cmpR op_lt (pe_ix (r := rIxT K) ix_tup (pe_ix (r := rIxT K) ix_tup (pv 8) pe_int (fun _ _ => rfl)) (pv 18) (fun _ _ => rfl)) (pe_ix (r := rIxT K) ix_tup (pe_ix (r := rIxT K) ix_tup (pv 7) pe_int (fun _ _ => rfl)) (pv 18) (fun _ _ => rfl)) (nomark _))) (fun _ _ _ _ _ => (pv 18))) pa_nil)) pe_int (nomark _))))) (pss_one (ps_ret pe_bl)) pss_nil)
      (pss_cons (ps_for PassesOwn.never rfl (pi_list (pe_slice (r := rSlL K) sl_list (pv 2) (po_some (pv 5)) (po_some (pv 6)))) (pg_name (i := 9) sc_law_right_paper.nd rfl (by first | exact Or.inl rfl | exact Or.inr rfl))
        (pss_cons (ps_set (i := 10) sc_law_right_paper.nd rfl (by first | exact Or.inl rfl | exact Or.inr rfl) (pe_ix (r := rIxL K) ix_list (pv 1) (pe_ix (r := rIxT K) ix_tup (pv 9) pe_int (fun _ _ => rfl)) (fun _ _ => rfl)))
      (pss_one (ps_if (PW.pt (pw_and (pt_cmpR op_eq (pe_ix (r := rIxT K) ix_tup (pv 10) pe_int (fun _ _ => rfl)) pe_str (nomark _)) (pw_and (pt_cmpR op_eq (pe_ix (r := rIxT K) ix_tup (pe_ix (r := rIxT K) ix_tup (pv 9) pe_int (fun _ _ => rfl)) (pe_ix (r := rIxT K) ix_tup (pv 10) pe_int (fun _ _ => rfl)) (fun _ _ => rfl)) pe_int (nomark _)) (pw_and1 (pt_cmpR op_ne (pe_ix (r := rIxT K) ix_tup (pe_ix (r := rIxT K) ix_tup (pv 7) pe_int (fun _ _ => rfl)) (pe_ix (r := rIxT K) ix_tup (pv 10) pe_int (fun _ _ => rfl)) (fun _ _ => rfl)) (pe_ix (r := rIxT K) ix_tup (pe_ix (r := rIxT K) ix_tup (pv 8) pe_int (fun _ _ => rfl)) (pe_ix (r := rIxT K) ix_tup (pv 10) pe_int (fun _ _ => rfl)) (fun _ _ => rfl)) (nomark _)))))) (pss_one (ps_ret pe_bl)) pss_nil))))
      (pss_one (ps_ret pe_bl)))) pss_nil)
      (pss_cons (ps_if (PW.pt (pw_or (pt_cmpR op_ne (pv 4) pe_str (nomark _)) (pw_or (pt_cmpR op_eq (pv 0) pe_int (nomark _)) (pw_or1 (pt_cmpR op_ne (pe_ix (r := rIxT K) ix_tup (pv 7) pe_int (fun _ _ => rfl)) (pe_ix (r := rIxT K) ix_tup (pv 8) pe_int (fun _ _ => rfl)) (nomark _)))))) (pss_one (ps_ret pe_bl)) pss_nil)
      (pss_cons (ps_set (i := 11) sc_law_right_paper.nd rfl (by first | exact Or.inl rfl | exact Or.inr rfl) (C8.pe_c c_law_places hr (by decide) rfl (pa_cons (pv 1) (pa_cons (pv 2) pa_nil))))
      (pss_cons (ps_set (i := 12) sc_law_right_paper.nd rfl (by first | exact Or.inl rfl | exact Or.inr rfl) (pe_callB (cr_min rfl) (by rfl) T.n_min (by decide +kernel) (pa_cons (pe_slice (r := rSlL K) sl_list (pv 11) (po_some (pv 5)) (po_some (pe_op op_add (pv 6) pe_int))) pa_nil)))
      (pss_cons (ps_set (i := 13) sc_law_right_paper.nd rfl (by first | exact Or.inl rfl | exact Or.inr rfl) (pe_callB (cr_max rfl) (by rfl) T.n_max (by decide +kernel) (pa_cons (pe_slice (r := rSlL K) sl_list (pv 11) (po_some (pv 5)) (po_some (pe_op op_add (pv 6) pe_int))) pa_nil)))
      (pss_cons (ps_set (i := 14) sc_law_right_paper.nd rfl (by first | exact Or.inl rfl | exact Or.inr rfl) (pe_op op_sub (pe_ix (r := rIxL K) ix_list (pv 11) (pv 6) (fun _ _ => rfl)) (pe_ix (r := rIxL K) ix_list (pv 11) (pv 5) (fun _ _ => rfl))))
      (pss_cons (ps_set (i := 15) sc_law_right_paper.nd rfl (by first | exact Or.inl rfl | exact Or.inr rfl) (pv 12))
      (pss_cons (ps_set (i := 16) sc_law_right_paper.nd rfl (by first | exact Or.inl rfl | exact Or.inr rfl) (pv 13))
      (Evl.pss_cut (ps_if (pt_cmpR op_gt (pv 14) pe_int (nomark _)) (pss_one (ps_set (i := 16) sc_law_right_paper.nd rfl (by first | exact Or.inl rfl | exact Or.inr rfl) (pe_op op_add (pe_op op_add (pv 13) (pe_callB (r := Ly.rLen K) call_len_seq (by rfl) T.n_len PySem.boot_len (pa_cons (pv 2) pa_nil))) pe_int))) pss_nil)
      (Evl.pss_cut (ps_if (pt_cmpR op_lt (pv 14) pe_int (nomark _)) (pss_one (ps_set (i := 15) sc_law_right_paper.nd rfl (by first | exact Or.inl rfl | exact Or.inr rfl) (pe_op op_sub (pe_op op_sub (pv 12) (pe_callB (r := Ly.rLen K) call_len_seq (by rfl) T.n_len PySem.boot_len (pa_cons (pv 2) pa_nil))) pe_int))) pss_nil)
      (pss_cons (ps_for PassesOwn.never rfl (pi_range2 rfl T.n_range (pa_cons (pv 15) (pa_cons (pe_op op_add (pv 16) pe_int) pa_nil))) (pg_name (i := 17) sc_law_right_paper.nd rfl (by first | exact Or.inl rfl | exact Or.inr rfl))
        (pss_one (ps_if (pt_cmpR op_ne (C8.pe_c c_law_symbol_at hr (by decide) rfl (pa_cons (pv 7) (pa_cons (pe_ix (r := rIxL K) ix_list (pv 11) (pv 5) (fun _ _ => rfl)) (pa_cons (pv 17) pa_nil)))) (C8.pe_c c_law_symbol_at hr (by decide) rfl (pa_cons (pv 8) (pa_cons (pe_ix (r := rIxL K) ix_list (pv 11) (pv 6) (fun _ _ => rfl)) (pa_cons (pe_op op_add (pv 17) (pv 14)) pa_nil)))) (nomark _)) (pss_one (ps_ret pe_bl)) pss_nil)))
      (pss_one (ps_ret pe_bl)))))))))))))))))), ?_⟩
  obtain ⟨G0, ds, P, k, rr, ⟨srt, made, run, rt, wd, i, j, hRn, hw, hij, hj, rfl, rfl⟩, q⟩ := h
  have S := S4.start (N := N_law_right_paper) k rr
  refine q_tup (js := [4, 5, 6]) (ds := [.str wd, .int (i : Int), .int (j : Int)]) (v_var (i := 3) rfl) rfl rfl S fun σ G H S => ?_
  refine q_when (P := (· = false)) (EvBX.to (b_orx (a := false) (b := false) (EvBX.to (b_testx (v_lt (v_var (i := 5) (d := .int (i : Int)) rfl) v_int)) (decide_eq_false (by omega))) fun _ => EvBX.to (b_orx (a := false) (b := false) (EvBX.to (b_testx (v_ge (v_var (i := 5) (d := .int (i : Int)) rfl) (v_var (i := 6) (d := .int (j : Int)) rfl))) (decide_eq_false (by omega))) fun _ => EvBX.to (b_testx (v_ge (v_var (i := 6) (d := .int (j : Int)) rfl) (v_lenL (v_var (i := 2) (d := .lst run) rfl)))) (decide_eq_false (by omega))) rfl) rfl) S (fun e => nomatch e) fun _ G H S => ?_
  cases hRn with
  | @tu st sy rows cs hM hR =>
    rw [List.length_map] at hj
    have hlen := hR.len
    have hms := ms_len rows cs
    obtain ⟨a, ha⟩ : ∃ a, cs[i]? = some a := ⟨_, List.getElem?_eq_getElem (by omega)⟩
    obtain ⟨b, hb⟩ : ∃ b, cs[j]? = some b := ⟨_, List.getElem?_eq_getElem (by omega)⟩
    have ca := hR.cf i a ha
    have cb := hR.cf j b hb
    have l1 := ca.ln
    have l2 := ca.rn
    have l3 := cb.ln
    have l4 := cb.rn
    refine q_setx (d := tD a) (v_ixL (ds := cs.map tD) (j := i) (v_var (i := 2) rfl) (v_var (i := 5) (d := .int (i : Int)) rfl) rfl (by rw [List.getElem?_map, ha]; rfl)) S fun σ G H S => ?_
    refine q_setx (d := tD b) (v_ixL (ds := cs.map tD) (j := j) (v_var (i := 2) rfl) (v_var (i := 6) (d := .int (j : Int)) rfl) rfl (by rw [List.getElem?_map, hb]; rfl)) S fun σ G H S => ?_
    refine q_when (b_testx (v_eqS (v_var (i := 4) (d := .str wd) rfl) v_str)) S (fun e G H S => ?_) fun e G H S => ?_
    · have e := of_decide_eq_true e.symm
      refine g_ret (P := (· = .bl (rtT rows cs wd i j))) (EvX.to (v_eqD (n := 3) (v_var (i := 7) (d := tD a) rfl) (v_var (i := 8) (d := tD b) rfl) (pl_t (by omega) (by omega)) (pl_t (by omega) (by omega)) (by omega)) ?_) S q
      unfold rtT sameAt
      rw [if_pos e, eqv_t, ha, hb]
      by_cases z : a = b <;> simp [z]
    have e := of_decide_eq_false e.symm
    refine q_when (P := (· = false)) (EvBX.to (b_andx (b_testx (v_eqS (v_var (i := 4) (d := .str wd) rfl) v_str)) fun _ => EvBX.to (b := false) (b_testx (v_eqI (v_var (i := 0) (d := .int 0) rfl) v_int)) (by decide)) (Bool.and_false _)) S (fun e => nomatch e) fun _ G H S => ?_
    have hrt : rtT rows cs wd i j = (decide (wd = "shift") && shP rows cs i j) := by
      unfold rtT
      rw [if_neg e]
      by_cases z : wd = "shift" <;> simp [z]
    have hB0 : shP rows cs i j = shB a b (loS (msOf rows cs) i j) (hiS (msOf rows cs) i j) (hd (msOf rows cs) j - hd (msOf rows cs) i) := by
      unfold shP
      rw [ha, hb]
    have hre := seg_reach (ms := msOf rows cs) (i := i) (j := j) (by omega) (by omega)
    generalize hlo : loS (msOf rows cs) i j = lo at hB0 hre
    generalize hhi : hiS (msOf rows cs) i j = hi at hB0 hre
    have hiff := shB_iff (a := a) (b := b) (lo := lo) (hi := hi) (far := cs.length + 40) (way := hd (msOf rows cs) j - hd (msOf rows cs) i) ca.le ca.re cb.le cb.re (by omega) (by omega) (by omega) (by omega)
    rw [← hB0] at hiff
    refine q_when (P := (· = !(decide (wd = "shift") && decide (a.1 = b.1)))) (EvBX.to (b_orx (b_testx (v_neS (v_var (i := 4) (d := .str wd) rfl) v_str)) fun _ => b_orx (b_testx (v_eqI (v_var (i := 0) (d := .int 0) rfl) v_int)) fun _ => b_testx (v_neI (v_ix0 (d := .int a.1) (v_var (i := 7) (d := tD a) rfl) rfl) (v_ix0 (d := .int b.1) (v_var (i := 8) (d := tD b) rfl) rfl))) (by by_cases z : wd = "shift" <;> by_cases y : a.1 = b.1 <;> simp [z, y])) S (fun e2 G H S => ?_) fun e2 G H S => ?_
    · refine g_ret (P := (· = .bl (rtT rows cs wd i j))) (EvX.to v_bl ?_) S q
      have e2 : (decide (wd = "shift") && decide (a.1 = b.1)) = false := (Bool.not_eq_true' _).mp e2.symm
      rw [hrt]
      rcases Bool.and_eq_false_iff.mp e2 with z | z
      · rw [z]
        rfl
      · cases es : shP rows cs i j with
        | false => rw [Bool.and_false]
        | true => exact absurd (hiff.mp es).1 (of_decide_eq_false z)
    have e2 : (decide (wd = "shift") && decide (a.1 = b.1)) = true := (Bool.not_eq_false' _).mp e2.symm
    rw [Bool.and_eq_true] at e2
    rw [e2.1, Bool.true_and] at hrt
    have hab := of_decide_eq_true e2.2
    generalize hh0 : hd (msOf rows cs) i = h0 at hre hiff
    generalize hh1 : hd (msOf rows cs) j = h1 at hre hiff
    refine q_setx (d := .lst (Ly.dI (heads (msOf rows cs)))) (v_call0x (a_consx (v_var (i := 1) (d := .lst (rows.map rowD)) rfl) (a_consx (v_var (i := 2) (d := .lst (cs.map tD)) rfl) a_nil)) ⟨st, sy, rows, cs, hM, hR, rfl, rfl⟩) S fun σ G H S => ?_
    have sl : ∀ {Γ : List (Option Dat)}, Γ[11]? = some (some (.lst (Ly.dI (heads (msOf rows cs))))) → Γ[5]? = some (some (.int (i : Int))) → Γ[6]? = some (some (.int (j : Int))) → EvX Wd0 K (tSl (rSlL K) (tVar 11) (tPart (tVar 5)) (tPart (tOp (rI0 fun i j => .int (i + j)) (tVar 6) (tC (.int 1))))) Γ (.lst (Ly.dI (seg (msOf rows cs) i j))) := fun h1 h2 h3 => EvX.to (n_slL (v_var h1) (o_some (v_var h2)) (o_some (v_add (v_var h3) v_int))) (by
      rw [show (j : Int) + 1 = ((j + 1 : Nat) : Int) by omega, cutD_mid _ (by omega) (by rw [List.length_map, heads_len]; omega)]
      unfold seg
      show Dat.lst ((List.map Dat.int _).drop i |>.take _) = Dat.lst (List.map Dat.int _)
      rw [List.map_take, List.map_drop])
    have sp : 0 < (seg (msOf rows cs) i j).length := (List.getElem?_eq_some_iff.mp hre.zero).1
    refine q_setx (d := .int (h0 - (lo : Int))) (Ev.imp (v_minL (P := (· = h0 - (lo : Int))) (sl rfl rfl rfl) sp fun m hm hle => by
      have z1 := hle _ hre.lo0
      have z2 := hre.lo1 m hm
      omega) fun d ⟨m, e, em⟩ => by rw [e, em]) S fun σ G H S => ?_
    refine q_setx (d := .int (h0 + (hi : Int))) (Ev.imp (v_maxL (P := (· = h0 + (hi : Int))) (sl rfl rfl rfl) sp fun m hm hle => by
      have z1 := hle _ hre.hi0
      have z2 := hre.hi1 m hm
      omega) fun d ⟨m, e, em⟩ => by rw [e, em]) S fun σ G H S => ?_
    have hx0 : (heads (msOf rows cs))[i]? = some h0 := by rw [← hh0]; exact heads_at (by omega)
    have hx1 : (heads (msOf rows cs))[j]? = some h1 := by rw [← hh1]; exact heads_at (by omega)
    have hix : ∀ {Γ : List (Option Dat)} {k n : Nat} {x : Int}, Γ[11]? = some (some (.lst (Ly.dI (heads (msOf rows cs))))) → Γ[k]? = some (some (.int (n : Int))) → (heads (msOf rows cs))[n]? = some x → EvX Wd0 K (tOp (rIxL K) (tVar 11) (tVar k)) Γ (.int x) := fun h1 h2 h3 => v_ixL (v_var h1) (v_var h2) rfl (by rw [List.getElem?_map, h3]; rfl)
    refine q_setx (d := .int (h1 - h0)) (v_sub (hix (k := 6) rfl rfl hx1) (hix (k := 5) rfl rfl hx0)) S fun σ G H S => ?_
    refine q_setx (d := .int (h0 - (lo : Int))) (v_var (i := 12) rfl) S fun σ G H S => ?_
    refine q_setx (d := .int (h0 + (hi : Int))) (v_var (i := 13) rfl) S fun σ G H S => ?_
    refine q_cut (fun σ H => ∃ (G : Hp), S4 Wd0 K G0 G0 H0 [some (.int 0), some (.lst (rows.map rowD)), some (.lst (cs.map tD)), some (.tup [.str wd, .int (i : Int), .int (j : Int)]), some (.str wd), some (.int (i : Int)), some (.int (j : Int)), some (tD a), some (tD b), none, none, some (.lst (Ly.dI (heads (msOf rows cs)))), some (.int (h0 - (lo : Int))), some (.int (h0 + (hi : Int))), some (.int (h1 - h0)), some (.int (h0 - (lo : Int))), some (.int (h0 + (hi : Int) + (if h1 - h0 > 0 then ((cs.length + 40 : Nat) : Int) else 0))), none, none] [] σ G H) ?_ ?_
    · refine g_if (b_testx (v_gt (v_var (i := 14) (d := .int (h1 - h0)) rfl) v_int)) S (fun e G H S => ?_) fun e G H S => ?_
      · refine g_setx (d := .int (h0 + (hi : Int) + (if h1 - h0 > 0 then ((cs.length + 40 : Nat) : Int) else 0))) (EvX.to (v_add (v_add (v_var (i := 13) (d := .int (h0 + (hi : Int))) rfl) (v_lenL (v_var (i := 2) (d := .lst (cs.map tD)) rfl))) v_int) ?_) S fun σ G H S => ⟨G, S⟩
        rw [if_pos (of_decide_eq_true e.symm), List.length_map]
        congr 1
        omega
      · rw [if_neg (of_decide_eq_false e.symm), Int.add_zero]
        exact ⟨G, S⟩
    rintro σ H ⟨G, S⟩
    refine q_cut (fun σ H => ∃ (G : Hp), S4 Wd0 K G0 G0 H0 [some (.int 0), some (.lst (rows.map rowD)), some (.lst (cs.map tD)), some (.tup [.str wd, .int (i : Int), .int (j : Int)]), some (.str wd), some (.int (i : Int)), some (.int (j : Int)), some (tD a), some (tD b), none, none, some (.lst (Ly.dI (heads (msOf rows cs)))), some (.int (h0 - (lo : Int))), some (.int (h0 + (hi : Int))), some (.int (h1 - h0)), some (.int (h0 - (lo : Int) - (if h1 - h0 < 0 then ((cs.length + 40 : Nat) : Int) else 0))), some (.int (h0 + (hi : Int) + (if h1 - h0 > 0 then ((cs.length + 40 : Nat) : Int) else 0))), none, none] [] σ G H) ?_ ?_
    · refine g_if (b_testx (v_lt (v_var (i := 14) (d := .int (h1 - h0)) rfl) v_int)) S (fun e G H S => ?_) fun e G H S => ?_
      · refine g_setx (d := .int (h0 - (lo : Int) - (if h1 - h0 < 0 then ((cs.length + 40 : Nat) : Int) else 0))) (EvX.to (v_sub (v_sub (v_var (i := 12) (d := .int (h0 - (lo : Int))) rfl) (v_lenL (v_var (i := 2) (d := .lst (cs.map tD)) rfl))) v_int) ?_) S fun σ G H S => ⟨G, S⟩
        rw [if_pos (of_decide_eq_true e.symm), List.length_map]
        congr 1
        omega
      · rw [if_neg (of_decide_eq_false e.symm), Int.sub_zero]
        exact ⟨G, S⟩
    rintro σ H ⟨G, S⟩
    have hb0 := heads_bd hM hR (i := i) (by omega)
    have hb1 := heads_bd hM hR (i := j) (by omega)
    rw [hh0] at hb0
    rw [hh1] at hb1
    have hblo : (lo : Int) ≤ 200 := by
      obtain ⟨n, hn⟩ := List.mem_iff_getElem?.mp hre.lo0
      have hn2 := (List.getElem?_eq_some_iff.mp hn).1
      rw [seg_len (by omega) (by omega)] at hn2
      rw [seg_at (by omega) (by omega)] at hn
      have := heads_bd hM hR (i := i + n) (by omega)
      have := Option.some.inj hn
      omega
    have hbhi : (hi : Int) ≤ 200 := by
      obtain ⟨n, hn⟩ := List.mem_iff_getElem?.mp hre.hi0
      have hn2 := (List.getElem?_eq_some_iff.mp hn).1
      rw [seg_len (by omega) (by omega)] at hn2
      rw [seg_at (by omega) (by omega)] at hn
      have := heads_bd hM hR (i := i + n) (by omega)
      have := Option.some.inj hn
      omega
    have g0 : (0 : Int) ≤ (if h1 - h0 < 0 then ((cs.length + 40 : Nat) : Int) else 0) ∧ (if h1 - h0 < 0 then ((cs.length + 40 : Nat) : Int) else 0) ≤ 90 := by split <;> omega
    have g1 : (0 : Int) ≤ (if h1 - h0 > 0 then ((cs.length + 40 : Nat) : Int) else 0) ∧ (if h1 - h0 > 0 then ((cs.length + 40 : Nat) : Int) else 0) ≤ 90 := by split <;> omega
    unfold shL at hiff
    generalize (if h1 - h0 < 0 then ((cs.length + 40 : Nat) : Int) else 0) = x0 at hiff g0 S
    generalize (if h1 - h0 > 0 then ((cs.length + 40 : Nat) : Int) else 0) = x1 at hiff g1 S
    refine q_for2 (lo := h0 - (lo : Int) - x0) (hi := h0 + (hi : Int) + x1 + 1) (j := 17) (a_consx (v_var (i := 15) rfl) (a_consx (v_add (v_var (i := 16) rfl) v_int) a_nil)) (by omega) S (fun n Γ O => O = [] ∧ (∃ z17, Γ = [some (.int 0), some (.lst (rows.map rowD)), some (.lst (cs.map tD)), some (.tup [.str wd, .int (i : Int), .int (j : Int)]), some (.str wd), some (.int (i : Int)), some (.int (j : Int)), some (tD a), some (tD b), none, none, some (.lst (Ly.dI (heads (msOf rows cs)))), some (.int (h0 - (lo : Int))), some (.int (h0 + (hi : Int))), some (.int (h1 - h0)), some (.int (h0 - (lo : Int) - x0)), some (.int (h0 + (hi : Int) + x1)), z17, none]) ∧ ∀ o : Int, -(lo : Int) - x0 ≤ o → o < -(lo : Int) - x0 + n → sym a o = sym b o) ⟨rfl, ⟨_, rfl⟩, fun o h1 h2 => absurd h2 (by omega)⟩ ?_ ?_
    · rintro n Γ O σ G H hn ⟨rfl, ⟨z17, rfl⟩, hall⟩ S
      generalize hp : h0 - (lo : Int) - x0 + (n : Int) = p at S
      have call : ∀ {Γ : List (Option Dat)} {te te2 : TE} {k : Nat} {E : XK} {c : TC} {h p o : Int}, Γ[k]? = some (some (tD c)) → EvX Wd0 K te Γ (.int h) → EvX Wd0 K te2 Γ (.int p) → c.2.1.length ≤ 1000 → c.2.2.2.length ≤ 1000 → p - h = o → EvX Wd0 K (tCall (spOf Wd0 K A_sym) [] E (tCons (tVar k) (tCons te (tCons te2 tNil)))) Γ (.int (sym c o)) := fun {Γ te te2 k E c h p o} h1 h2 h3 h4 h5 h6 => v_call0x (P := (· = .int (sym c o))) (a_consx (v_var h1) (a_consx h2 (a_consx h3 a_nil))) ⟨c, h, p, h4, h5, rfl, by rw [h6]⟩
      refine g_if (P := (· = !decide (sym a (p - h0) = sym b (p - h0)))) (b_testx (v_neI (call (k := 7) (o := p - h0) rfl (hix (k := 5) rfl rfl hx0) (v_var (i := 17) (d := .int p) rfl) (by omega) (by omega) rfl) (call (k := 8) (o := p - h0) rfl (hix (k := 6) rfl rfl hx1) (v_add (v_var (i := 17) (d := .int p) rfl) (v_var (i := 14) (d := .int (h1 - h0)) rfl)) (by omega) (by omega) (by omega)))) S (fun e G H S => ?_) fun e G H S => ?_
      · refine g_ret (P := (· = .bl (rtT rows cs wd i j))) (EvX.to v_bl ?_) S q
        rw [hrt]
        cases es : shP rows cs i j with
        | false => rfl
        | true => exact absurd ((hiff.mp es).2 (p - h0) (by omega) (by omega)) (of_decide_eq_false ((Bool.not_eq_true' _).mp e.symm))
      · refine ⟨_, _, _, ⟨rfl, ⟨_, rfl⟩, fun o h1 h2 => ?_⟩, S⟩
        by_cases z : o < -(lo : Int) - x0 + n
        · exact hall o h1 z
        · rw [show o = p - h0 by omega]
          exact of_decide_eq_true ((Bool.not_eq_false' _).mp e.symm)
    · rintro Γ O σ G H ⟨rfl, ⟨z17, rfl⟩, hall⟩ S
      refine g_ret (P := (· = .bl (rtT rows cs wd i j))) (EvX.to v_bl ?_) S q
      rw [hrt, hiff.mpr ⟨hab, fun o h1 h2 => hall o h1 (by omega)⟩]
  | @re c xs cs hR =>
    rw [List.length_map] at hj
    have hlen := hR.len
    obtain ⟨⟨pl, us⟩, ha⟩ : ∃ a, cs[i]? = some a := ⟨_, List.getElem?_eq_getElem (by omega)⟩
    obtain ⟨⟨pl2, us2⟩, hb⟩ : ∃ b, cs[j]? = some b := ⟨_, List.getElem?_eq_getElem (by omega)⟩
    have ca := hR.cf i _ ha
    have cb := hR.cf j _ hb
    have l1 : us.length = c := ca.len
    have l2 : us2.length = c := cb.len
    have l3 := ca.small
    refine q_setx (d := rD (pl, us)) (v_ixL (ds := cs.map rD) (j := i) (v_var (i := 2) rfl) (v_var (i := 5) (d := .int (i : Int)) rfl) rfl (by rw [List.getElem?_map, ha]; rfl)) S fun σ G H S => ?_
    refine q_setx (d := rD (pl2, us2)) (v_ixL (ds := cs.map rD) (j := j) (v_var (i := 2) rfl) (v_var (i := 6) (d := .int (j : Int)) rfl) rfl (by rw [List.getElem?_map, hb]; rfl)) S fun σ G H S => ?_
    refine q_when (b_testx (v_eqS (v_var (i := 4) (d := .str wd) rfl) v_str)) S (fun e G H S => ?_) fun e G H S => ?_
    · have e := of_decide_eq_true e.symm
      refine g_ret (P := (· = .bl (rtR xs cs wd i j))) (EvX.to (v_eqD (n := 3) (v_var (i := 7) (d := rD (pl, us)) rfl) (v_var (i := 8) (d := rD (pl2, us2)) rfl) (pl_r (by show us.length ≤ 1000; omega)) (pl_r (by show us2.length ≤ 1000; omega)) (by omega)) ?_) S q
      unfold rtR sameAt
      rw [if_pos e, eqv_r, ha, hb]
      simp only [Option.some.injEq]
    have e := of_decide_eq_false e.symm
    refine q_when (P := (· = decide (wd = "growth"))) (EvBX.to (b_andx (b_testx (v_eqS (v_var (i := 4) (d := .str wd) rfl) v_str)) fun _ => EvBX.to (b := true) (b_testx (v_eqI (v_var (i := 0) (d := .int 1) rfl) v_int)) (by decide)) (Bool.and_true _)) S (fun e2 G H S => ?_) fun e2 G H S => ?_
    · have e2 := of_decide_eq_true e2.symm
      have hB0 : rtR xs cs wd i j = (decide (pl = pl2) && (((us.zip us2).all fun p => decide (p.1 ≤ p.2)) && (((cs.drop i).take (j - i)).map (empt xs)).all fun e => match e with
        | none => true
        | some n => decide (us[n]? = us2[n]?))) := by
        unfold rtR
        rw [if_neg e, if_pos e2]
        unfold grP
        rw [ha, hb, es_slice hj]
        rfl
      have hll : us.length = us2.length := by omega
      refine q_when (P := (· = !(decide (pl = pl2) && ((us.zip us2).all fun p => decide (p.1 ≤ p.2))))) (EvBX.to (b_orx (b_testx (v_neI (v_ix0 (d := .int (pl : Int)) (v_var (i := 7) (d := rD (pl, us)) rfl) rfl) (v_ix0 (d := .int (pl2 : Int)) (v_var (i := 8) (d := rD (pl2, us2)) rfl) rfl))) fun _ => b_testx (v_gt (v_lenL (EvN.evx (n_lcRF (n := us.length) (j := 18) (g := fun k => .int (k : Int)) (p := fun k => decide (us2.getD k 0 < us.getD k 0)) (a_consx (d := .int (us.length : Int)) (EvX.to (v_lenT (ds := Ly.dI us) (v_ixT (j := 1) (d := .tup (Ly.dI us)) (v_var (i := 7) (d := rD (pl, us)) rfl) v_int rfl rfl)) (by rw [List.length_map])) a_nil) (by omega) (fun k hk => ?_) fun k hk _ => v_var (i := 18) rfl) fun ds e => e)) v_int)) ?_) S (fun e3 G H S => ?_) fun e3 G H S => ?_
      · have h1 : us[k]? = some us[k] := List.getElem?_eq_getElem hk
        have h2 : us2[k]? = some (us2[k]'(by omega)) := List.getElem?_eq_getElem (by omega)
        refine EvBX.to (b_testx (v_lt (v_ixT (ds := Ly.dI us2) (j := k) (d := .int (us2[k]'(by omega))) (v_ixT (j := 1) (d := .tup (Ly.dI us2)) (v_var (i := 8) (d := rD (pl2, us2)) rfl) v_int rfl rfl) (v_var (i := 18) (d := .int (k : Int)) rfl) rfl (by rw [List.getElem?_map, h2]; rfl)) (v_ixT (ds := Ly.dI us) (j := k) (d := .int us[k]) (v_ixT (j := 1) (d := .tup (Ly.dI us)) (v_var (i := 7) (d := rD (pl, us)) rfl) v_int rfl rfl) (v_var (i := 18) (d := .int (k : Int)) rfl) rfl (by rw [List.getElem?_map, h1]; rfl)))) ?_
        simp only [List.getD_eq_getElem?_getD, h1, h2, Option.getD_some]
      · rw [List.length_map, Bool.not_and, ← less_count us us2 hll]
        congr 1
        · by_cases z : pl = pl2
          · rw [decide_eq_true z, decide_eq_true (by omega)]
          · rw [decide_eq_false z, decide_eq_false (by omega)]
        · congr 1
          exact propext ⟨fun z => by omega, fun z => by omega⟩
      · refine g_ret (P := (· = .bl (rtR xs cs wd i j))) (EvX.to v_bl ?_) S q
        rw [hB0, ← Bool.and_assoc, (Bool.not_eq_true' _).mp e3.symm]
        rfl
      have e3 := (Bool.not_eq_false' _).mp e3.symm
      rw [← Bool.and_assoc, e3, Bool.true_and] at hB0
      refine q_forL (ds := ((cs.drop i).take (j - i)).map rD) (j := 9) (EvX.to (n_slL (v_var (i := 2) (d := .lst (cs.map rD)) rfl) (o_some (v_var (i := 5) (d := .int (i : Int)) rfl)) (o_some (v_var (i := 6) (d := .int (j : Int)) rfl))) (by rw [cutD_mid _ (by omega) (by rw [List.length_map]; omega), List.map_take, List.map_drop])) S (fun t Γ O => O = [] ∧ (∃ z9 z10 z11 z12 z13 z14 z15 z16 z17 z18, Γ = [some (.int 1), some (.lst (KR.insD xs)), some (.lst (cs.map rD)), some (.tup [.str wd, .int (i : Int), .int (j : Int)]), some (.str wd), some (.int (i : Int)), some (.int (j : Int)), some (rD (pl, us)), some (rD (pl2, us2)), z9, z10, z11, z12, z13, z14, z15, z16, z17, z18]) ∧ ((((cs.drop i).take (j - i)).take t).map (empt xs)).all (fun e => match e with
        | none => true
        | some n => decide (us[n]? = us2[n]?)) = true) ⟨rfl, ⟨_, _, _, _, _, _, _, _, _, _, rfl⟩, rfl⟩ ?_ ?_
      · rintro G1 t d Γ O σ G H hdd ⟨rfl, ⟨z9, z10, z11, z12, z13, z14, z15, z16, z17, z18, rfl⟩, hall⟩ S
        rw [List.getElem?_map] at hdd
        obtain ⟨⟨pr, vr⟩, hr, rfl⟩ := Option.map_eq_some_iff.mp hdd
        have hr2 : cs[i + t]? = some (pr, vr) := by
          rw [List.getElem?_take] at hr
          split at hr
          · rwa [List.getElem?_drop] at hr
          · cases hr
        have hcr := hR.cf _ _ hr2
        have lr : vr.length = c := hcr.len
        obtain ⟨x, hx, hs⟩ := hcr.at'
        have hx : xs[pr]? = some x := hx
        have hnx : ∀ b : Bool, (match empt xs (pr, vr) with
            | none => true
            | some n => decide (us[n]? = us2[n]?)) = b → ((((cs.drop i).take (j - i)).take (t + 1)).map (empt xs)).all (fun e => match e with
            | none => true
            | some n => decide (us[n]? = us2[n]?)) = b := fun b hb => by
          rw [List.take_succ, hr, List.map_append, List.all_append, hall, Bool.true_and]
          simpa using hb
        refine q_setx (d := KR.ins x) (v_ixL (ds := KR.insD xs) (j := pr) (v_var (i := 1) rfl) (v_ix0 (d := .int (pr : Int)) (v_var (i := 9) (d := rD (pr, vr)) rfl) rfl) rfl (by rw [List.getElem?_map, hx]; rfl)) S fun σ G H S => ?_
        have hone : ∀ {Γ : List (Option Dat)} {ix : Int} {j : Nat} {d : Dat}, Γ[10]? = some (some (KR.ins x)) → ix = (j : Int) → (Dat.str x.1 :: Ly.dI x.2)[j]? = some d → EvX Wd0 K (tOp (rIxT K) (tVar 10) (tC (.int ix))) Γ d := fun h0 h1 h2 => v_ixT (v_var h0) v_int h1 h2
        rcases hs with rfl | ⟨n, u, rfl, hn, _⟩ | ⟨n, u, u2, rfl, hn, _⟩
        · refine g_if (EvBX.to (b_andx (a := false) (b := false) (b_testx (EvX.to (v_eqS (hone (j := 0) (d := .str "end") rfl rfl rfl) v_str) (by rfl))) fun e => nomatch e) rfl) S (fun e => nomatch e) fun _ G H S => ?_
          refine ⟨_, _, _, ⟨rfl, ⟨_, _, _, _, _, _, _, _, _, _, rfl⟩, hnx true ?_⟩, S⟩
          unfold empt
          rw [hx]
        · refine g_if (EvBX.to (b_andx (a := false) (b := false) (b_testx (EvX.to (v_eqS (hone (j := 0) (d := .str "inc") rfl rfl rfl) v_str) (by rfl))) fun e => nomatch e) rfl) S (fun e => nomatch e) fun _ G H S => ?_
          refine ⟨_, _, _, ⟨rfl, ⟨_, _, _, _, _, _, _, _, _, _, rfl⟩, hnx true ?_⟩, S⟩
          have em : empt xs (pr, vr) = none := by
            unfold empt
            rw [hx]
            show (if ("inc" : Str) = "dec" ∧ _ then _ else _) = _
            rw [if_neg (fun z => absurd z.1 (by decide))]
          rw [em]
        · have hv : vr[n]? = some (vr[n]'(by omega)) := List.getElem?_eq_getElem (by omega)
          have h1 : us[n]? = some (us[n]'(by omega)) := List.getElem?_eq_getElem (by omega)
          have h2 : us2[n]? = some (us2[n]'(by omega)) := List.getElem?_eq_getElem (by omega)
          generalize vr[n]'(by omega) = v at hv
          generalize us[n]'(by omega) = y1 at h1
          generalize us2[n]'(by omega) = y2 at h2
          have em : empt xs (pr, vr) = if v = 0 then some n else none := by
            unfold empt
            rw [hx]
            show (if ("dec" : Str) = "dec" ∧ vr[n]? = some 0 then some n else none) = _
            rw [hv]
            by_cases z : v = 0 <;> simp [z]
          have ixx : ∀ {Γ : List (Option Dat)} {k : Nat} {p : Nat} {vs : List Int} {y : Int}, Γ[10]? = some (some (KR.ins ("dec", [(n : Int), (u : Int), (u2 : Int)]))) → Γ[k]? = some (some (rD (p, vs))) → vs[n]? = some y → EvX Wd0 K (tOp (rIxT K) (tOp (rIxT K) (tVar k) (tC (.int 1))) (tOp (rIxT K) (tVar 10) (tC (.int 1)))) Γ (.int y) := fun {Γ k p vs y} h0 h1 h2 => v_ixT (ds := Ly.dI vs) (j := n) (v_ixT (j := 1) (d := .tup (Ly.dI vs)) (v_var h1) v_int rfl rfl) (hone (j := 1) (d := .int (n : Int)) h0 rfl rfl) rfl (by rw [List.getElem?_map, h2]; rfl)
          refine g_if (P := (· = (decide (v = 0) && !decide (y1 = y2)))) (EvBX.to (b_andx (a := true) (b := decide (v = 0) && !decide (y1 = y2)) (b_testx (EvX.to (v_eqS (hone (j := 0) (d := .str "dec") rfl rfl rfl) v_str) (by rfl))) fun _ => b_andx (b_testx (v_eqI (ixx (k := 9) rfl rfl hv) v_int)) fun _ => b_testx (v_neI (ixx (k := 7) rfl rfl h1) (ixx (k := 8) rfl rfl h2))) rfl) S (fun e4 G H S => ?_) fun e4 G H S => ?_
          · refine g_ret (P := (· = .bl (rtR xs cs wd i j))) (EvX.to v_bl ?_) S q
            have e4 := e4.symm
            rw [Bool.and_eq_true] at e4
            have z0 := of_decide_eq_true e4.1
            have z1 := of_decide_eq_false ((Bool.not_eq_true' _).mp e4.2)
            rw [if_pos z0] at em
            have hf := hnx false (by
              rw [em]
              show decide (us[n]? = us2[n]?) = false
              rw [h1, h2]
              simp [z1])
            rw [hB0]
            congr 1
            symm
            rw [List.all_eq_false] at hf ⊢
            obtain ⟨e, he, hx⟩ := hf
            exact ⟨e, by
              obtain ⟨r0, hr0, e0⟩ := List.mem_map.mp he
              exact List.mem_map.mpr ⟨r0, List.mem_of_mem_take hr0, e0⟩, hx⟩
          · refine ⟨_, _, _, ⟨rfl, ⟨_, _, _, _, _, _, _, _, _, _, rfl⟩, hnx true ?_⟩, S⟩
            rw [em]
            by_cases z0 : v = 0
            · rw [if_pos z0]
              show decide (us[n]? = us2[n]?) = true
              have e4 := e4.symm
              rw [decide_eq_true z0, Bool.true_and] at e4
              have z1 := of_decide_eq_true ((Bool.not_eq_false' _).mp e4)
              rw [h1, h2, z1]
              simp
            · rw [if_neg z0]
      · rintro Γ O σ G H ⟨rfl, ⟨z9, z10, z11, z12, z13, z14, z15, z16, z17, z18, rfl⟩, hall⟩ S
        rw [List.length_map, List.take_length] at hall
        exact g_ret (P := (· = .bl (rtR xs cs wd i j))) (EvX.to v_bl (by rw [hB0, hall])) S q
    · have e2 := of_decide_eq_false e2.symm
      have hrt : rtR xs cs wd i j = false := by
        unfold rtR
        rw [if_neg e, if_neg e2]
      refine q_when (P := (· = true)) (EvBX.to (b_orx (b_testx (v_neS (v_var (i := 4) (d := .str wd) rfl) v_str)) fun _ => EvBX.to (b := true) (b_orx (a := true) (b := false) (EvBX.to (b_testx (v_eqI (v_var (i := 0) (d := .int 1) rfl) v_int)) (by decide)) fun e => nomatch e) rfl) (Bool.or_true _)) S (fun _ G H S => ?_) (fun e => nomatch e)
      exact g_ret (P := (· = .bl (rtR xs cs wd i j))) (EvX.to v_bl (by rw [hrt])) S q
end
end K89

set_option maxHeartbeats 4000000
namespace K89
open PySem L2 Ly
theorem Rn.lt {s : Int} {made : Dat} {run : List Dat} {rt : Str → Nat → Nat → Bool} (h : Rn s made run rt) : run.length ≤ 50 := by
  cases h with
  | tu _ r => rw [List.length_map]; exact r.len
  | re r => rw [List.length_map]; exact r.len
section
variable {P : Program} {w : World} {K : PySem.W.Frag} {mg : Str → Option Value} {base : Heap} {C_Turing C_Registers C_InvalidMachine C_BadArgument : Addr}
theorem ok_sought (D : Df K mg "_law_sought" s_law_sought) (T : Txt K w mg C_Turing C_Registers C_InvalidMachine C_BadArgument) (c_law_right_paper : C8.Cal P w K mg base 3 "_law_right_paper" (spOf Wd0 K A_right) []) : C8.Cal P w K mg base 4 "_law_sought" (spOf Wd0 K A_sought) [] := by
  refine cal_of D (fun _ _ _ _ _ _ us hl => match us, hl with | [_, _, _, _], _ => rfl) sc_law_sought (spOf_len (n := 4) fun _ _ ⟨_, _, _, _, _, _, _, _, _, _, _, _, _, _, _, _, _, e, _⟩ => by rw [e]; rfl) fun f cdv A outer s H0 vs Q E hr h => ⟨_, (pss_cons (ps_for PassesOwn.never rfl (pi_range2 rfl T.n_range (pa_cons pe_int (pa_cons (pe_op op_add (pe_callB (call_min2 rfl) (by rfl) T.n_min (by decide +kernel) (pa_cons (pv 3) (pa_cons (pe_op op_sub (pe_callB (r := Ly.rLen K) call_len_seq (by rfl) T.n_len PySem.boot_len (pa_cons (pv 2) pa_nil)) pe_int) pa_nil))) pe_int) pa_nil))) (pg_name (i := 4) sc_law_sought.nd rfl (by first | exact Or.inl rfl | exact Or.inr rfl))
        (pss_one (ps_for PassesOwn.never rfl (pi_range1 rfl T.n_range (pa_cons (pv 4) pa_nil)) (pg_name (i := 5) sc_law_sought.nd rfl (by first | exact Or.inl rfl | exact Or.inr rfl))
        (pss_one (ps_for PassesOwn.never rfl (pi_list (pe_lst (pa_cons pe_str (pa_cons pe_str (pa_cons pe_str pa_nil))))) (pg_name (i := 6) sc_law_sought.nd rfl (by first | exact Or.inl rfl | exact Or.inr rfl))
        (pss_one (ps_if (pt_val (C8.pe_c c_law_right_paper hr (by decide) rfl (pa_cons (pv 0) (pa_cons (pv 1) (pa_cons (pv 2) (pa_cons (pe_tup (pa_cons (pv 6) (pa_cons (pv 5) (pa_cons (pv 4) pa_nil)))) pa_nil)))))) (pss_one (ps_ret (pe_tup (pa_cons (pv 6) (pa_cons (pv 5) (pa_cons (pv 4) pa_nil)))))) pss_nil)))))))
      (pss_one (ps_ret pe_non))), ?_⟩
  obtain ⟨G0, ds, P, k, rr, ⟨srt, made, run, rt, limit, kind, B, same, o, hRn, hp, hl, hlim, h0, h1, h2, hO, rfl, rfl⟩, q⟩ := h
  have S := S4.start (N := N_law_sought) k rr
  have hlen := hRn.lt
  have all : ∀ {i j : Nat}, (∀ w ∈ words, rt w i j = false) → B i j = false := fun {i j} h => by
    cases e : B i j with
    | false => rfl
    | true =>
      obtain ⟨w, hw, hr⟩ := h2 i j e
      rw [h w hw] at hr
      cases hr
  refine q_for2 (lo := 1) (hi := (run.length : Int)) (j := 4) (a_consx v_int (a_consx (d := .int (run.length : Int)) (EvX.to (v_add (v_min2 (v_var (i := 3) (d := .int (limit : Int)) rfl) (v_sub (v_lenL (v_var (i := 2) (d := .lst run) rfl)) v_int)) v_int) (by
    congr 1
    split <;> omega)) a_nil)) (by omega) S (fun n Γ O => O = [] ∧ (∃ z4 z5 z6, Γ = [some (.int srt), some made, some (.lst run), some (.int (limit : Int)), z4, z5, z6]) ∧ ∀ j, j < n + 1 → ∀ i, i < j → B i j = false) ⟨rfl, ⟨_, _, _, rfl⟩, fun j hj i hi => absurd hi (by omega)⟩ ?_ ?_
  · rintro n Γ O σ G H hn ⟨rfl, ⟨z4, z5, z6, rfl⟩, hB⟩ S
    rw [show (1 : Int) + (n : Int) = ((n + 1 : Nat) : Int) by omega] at S
    have hn2 : n + 1 < run.length := by omega
    generalize n + 1 = j at S hB hn2
    refine g_for1 (n := (j : Int)) (j := 5) (a_consx (v_var (i := 4) (d := .int (j : Int)) rfl) a_nil) (by omega) S (fun i Γ O => O = [] ∧ (∃ z5 z6, Γ = [some (.int srt), some made, some (.lst run), some (.int (limit : Int)), some (.int (j : Int)), z5, z6]) ∧ ∀ i2, i2 < i → B i2 j = false) ⟨rfl, ⟨_, _, rfl⟩, fun i2 h => absurd h (by omega)⟩ ?_ ?_ (by omega)
    · rintro i Γ O σ G H hi ⟨rfl, ⟨z5, z6, rfl⟩, hI⟩ S
      have hij : i < j := by omega
      refine g_forL (ds := words.map Dat.str) (j := 6) (v_lstx (a_consx v_str (a_consx v_str (a_consx v_str a_nil))) (by simp [words])) S (fun t Γ O => O = [] ∧ (∃ z6, Γ = [some (.int srt), some made, some (.lst run), some (.int (limit : Int)), some (.int (j : Int)), some (.int (i : Int)), z6]) ∧ ∀ w ∈ words.take t, rt w i j = false) ⟨rfl, ⟨_, rfl⟩, fun w h => nomatch h⟩ ?_ ?_
      · rintro G1 t d Γ O σ G H hdd ⟨rfl, ⟨z6, rfl⟩, hW⟩ S
        rw [List.getElem?_map] at hdd
        obtain ⟨wd, hw, rfl⟩ := Option.map_eq_some_iff.mp hdd
        have hwm := List.mem_of_getElem? hw
        refine g_if (P := (· = rt wd i j)) (b_Bx (v_call0x (P := (· = .bl (rt wd i j))) (a_consx (v_var (i := 0) (d := .int srt) rfl) (a_consx (v_var (i := 1) (d := made) rfl) (a_consx (v_var (i := 2) (d := .lst run) rfl) (a_consx (v_tupx (a_consx (v_var (i := 6) (d := .str wd) rfl) (a_consx (v_var (i := 5) (d := .int (i : Int)) rfl) (a_consx (v_var (i := 4) (d := .int (j : Int)) rfl) a_nil))) (by simp)) a_nil)))) ⟨srt, made, run, rt, wd, i, j, hRn, hwm, hij, hn2, rfl, rfl⟩)) S (fun e G H S => ?_) fun e G H S => ?_
        · have e := e.symm
          obtain ⟨hk, hb⟩ := h1 wd i j hij hn2 e
          have eo : o = some (i, j) := hO.one ⟨⟨hij, hn2, hb⟩, hB, hI⟩
          subst eo
          refine g_ret (P := (· = papD kind same (some (i, j)))) (EvX.to (v_tupx (a_consx (v_var (i := 6) (d := .str wd) rfl) (a_consx (v_var (i := 5) (d := .int (i : Int)) rfl) (a_consx (v_var (i := 4) (d := .int (j : Int)) rfl) a_nil))) (by simp)) ?_) S q
          show _ = Dat.tup [Dat.str (if same i j = true then "repeat" else kind), Dat.int (i : Int), Dat.int (j : Int)]
          congr 3
          by_cases z : same i j = true
          · rw [if_pos z]
            rcases hk with h | h
            · exact h
            · -- the word repeat came first
              by_cases y : wd = "repeat"
              · exact y
              · have : ("repeat" : Str) ∈ words.take t := by
                  match t, hw with
                  | 0, hw => cases hw; exact absurd rfl y
                  | t + 1, hw => simp [words]
                have := hW _ this
                rw [h0, z] at this
                cases this
          · rw [if_neg z]
            rcases hk with h | h
            · rw [h, h0] at e
              exact absurd e z
            · exact h
        · refine ⟨_, _, _, ⟨rfl, ⟨_, rfl⟩, fun w hm => ?_⟩, S⟩
          rw [List.take_succ, hw] at hm
          rcases List.mem_append.mp hm with z | z
          · exact hW w z
          · rw [List.mem_singleton.mp z]
            exact e.symm
      · rintro Γ O σ G H ⟨rfl, ⟨z6, rfl⟩, hW⟩ S
        rw [List.length_map, List.take_length] at hW
        refine ⟨_, _, _, ⟨rfl, ⟨_, _, rfl⟩, fun i2 hi2 => ?_⟩, S⟩
        rcases Nat.lt_or_ge i2 i with z | z
        · exact hI i2 z
        · rw [show i2 = i by omega]
          exact all hW
    · rintro Γ O σ G H ⟨rfl, ⟨z5, z6, rfl⟩, hI⟩ S
      rw [Int.toNat_natCast] at hI
      refine ⟨_, _, _, ⟨rfl, ⟨_, _, _, rfl⟩, fun j2 hj2 i2 hi2 => ?_⟩, S⟩
      rcases Nat.lt_or_ge j2 j with z | z
      · exact hB j2 z i2 hi2
      · have : j2 = j := by omega
        subst this
        exact hI i2 hi2
  · rintro Γ O σ G H ⟨rfl, ⟨z4, z5, z6, rfl⟩, hB⟩ S
    have eo : o = none := hO.one (o2 := none) fun j hj i hi => hB j (by omega) i hi
    subst eo
    exact g_ret (P := (· = .non)) v_non S q
end
end K89

set_option maxHeartbeats 4000000
namespace K89
open PySem L2 Ly
def cellV (sc : List Int) (j : Nat) : Int := if h : j < sc.length then (if sc[j] < 0 then -sc[j] else sc[j]) else 0
theorem cellV_nn (sc : List Int) (j : Nat) : 0 ≤ cellV sc j := by
  unfold cellV
  split
  · split <;> omega
  · omega
def A_cellx : Sig := fun ds P => ∃ (sc : List Int) (k : Nat), sc.length ≤ 63 ∧ ds = [.lst (dI sc), .int (k : Int)] ∧ P = (· = .int (cellV sc k))
section
variable {P : Program} {w : World} {K : PySem.W.Frag} {mg : Str → Option Value} {base : Heap} {C_Turing C_Registers C_InvalidMachine C_BadArgument : Addr}
theorem ok_cellx (D : Df K mg "_law_cell" s_law_cell) (T : Txt K w mg C_Turing C_Registers C_InvalidMachine C_BadArgument) : C8.Cal P w K mg base 1 "_law_cell" (spOf Wd0 K A_cellx) [] := by
  refine cal_of D (fun _ _ _ _ _ _ us hl => match us, hl with | [_, _], _ => rfl) sc_law_cell (spOf_len (n := 2) fun _ _ ⟨_, _, _, e, _⟩ => by rw [e]; rfl) fun f cdv A outer s H0 vs Q E hr h => ⟨_, (pss_cons (ps_if (pt_cmpR op_lt (pv 1) (pe_callB (r := Ly.rLen K) call_len_seq (by rfl) T.n_len PySem.boot_len (pa_cons (pv 0) pa_nil)) (nomark _)) (pss_one (ps_ret (pe_callB call_abs (by rfl) T.n_abs (by decide +kernel) (pa_cons (pe_callTy call_int1 (by rfl) T.n_int (by decide +kernel) (pa_cons (pe_ix (r := rIxL K) ix_list (pv 0) (pv 1) (fun _ _ => rfl)) pa_nil)) pa_nil)))) pss_nil)
      (pss_one (ps_ret pe_int))), ?_⟩
  obtain ⟨G0, ds, P, k, r, ⟨sc, j, hl, rfl, rfl⟩, q⟩ := h
  have S := S4.start (N := N_law_cell) k r
  refine q_when (P := (· = decide ((j : Int) < (sc.length : Int)))) (EvBX.to (b_testx (v_lt (v_var rfl) (v_lenL (v_var (d := .lst (dI sc)) rfl)))) (by rw [List.length_map])) S (fun e G H S => ?_) (fun e G H S => ?_)
  · have hj : j < sc.length := by
      have := of_decide_eq_true e.symm
      omega
    refine g_ret (EvX.to (v_abs (v_int1 (v_ixL (d := .int sc[j]) (v_var (d := .lst (dI sc)) rfl) (v_var rfl) rfl (by rw [List.getElem?_map, List.getElem?_eq_getElem hj]; rfl)))) ?_) S q
    unfold cellV
    rw [dif_pos hj]
  · have hj : ¬ j < sc.length := by
      have := of_decide_eq_false e.symm
      omega
    refine g_ret (EvX.to v_int ?_) S q
    unfold cellV
    rw [dif_neg hj]
end

/-! ## a machine of either kind: what judge gives is what the law seeks -/
theorem str_ok : PyData.strOk "repeat" = true ∧ PyData.strOk "growth" = true ∧ PyData.strOk "shift" = true := by decide +kernel
theorem pl_pap {kind : Str} {same : Nat → Nat → Bool} (hk : PyData.strOk kind = true) : ∀ o : Option (Nat × Nat), Pl 3 (papD kind same o)
  | none => by
    show Pl 3 .non
    rw [Pl]
    trivial
  | some (i, j) => by
    show Pl 3 (.tup [_, _, _])
    rw [Pl, Pls, Pls, Pls, Pls, Pl, Pl]
    refine ⟨by simp, ?_, trivial, trivial, trivial⟩
    split
    · exact str_ok.1
    · exact hk
theorem both {K : PySem.W.Frag} {CT CR : Addr} : ∀ {W : Knd} {M : Mc K (LS CT CR K)} {d x : Dat} {k : Nat} {rows : List Dat}, W.valid → IsO CT CR W M.D → M.R = W.R → M.ok = W.ok → k ≤ 15 → Full M d k rows x → ∃ p : Dat, Pl 3 p ∧ A_found CT CR [M.D, .lst rows] (· = p) ∧ A_sought [.int W.sort, W.made, .lst rows, .int (k : Int)] (· = p)
  | .tu st sy rws, M, d, x, k, rows, hv, ⟨fsd, eo, hG⟩, hR, hok, hk, hF => by
    obtain ⟨cs, rfl, hT⟩ := hF.tu hv hR hok hk
    obtain ⟨o, hO⟩ := Fst.ex (shP rws cs) cs.length
    have hl := hF.len
    rw [List.length_map] at hl
    refine ⟨papD "shift" (sameAt cs) o, pl_pap str_ok.2.2 o, .inl ⟨st, sy, rws, fsd, cs, o, hT, hG, hO, by rw [eo], rfl⟩, 0, .lst (rws.map rowD), cs.map tD, rtT rws cs, k, "shift", shP rws cs, sameAt cs, o, .tu hv hT, by rw [List.length_map]; exact hT.pos, by rw [List.length_map]; exact hl, by omega, fun i j => ?_, fun w i j hij hj hr => ?_, fun i j hb => ?_, by rw [List.length_map]; exact hO, rfl, rfl⟩
    · unfold rtT
      rw [if_pos rfl]
    · rw [List.length_map] at hj
      unfold rtT at hr
      split at hr
      · rename_i ew
        refine ⟨.inl ew, ?_⟩
        obtain ⟨a, ha⟩ : ∃ a, cs[i]? = some a := ⟨_, List.getElem?_eq_getElem (by omega)⟩
        unfold sameAt at hr
        have hr := of_decide_eq_true hr
        rw [ha] at hr
        unfold shP
        rw [← hr, ha]
        exact shB_same _ _ _ _
      · split at hr
        · rename_i ew
          exact ⟨.inr ew, hr⟩
        · cases hr
    · refine ⟨"shift", by simp [words], ?_⟩
      unfold rtT
      rw [if_neg (by decide), if_pos rfl]
      exact hb
  | .re c xs, M, d, x, k, rows, hv, eo, hR, hok, hk, hF => by
    obtain ⟨cs, rfl, hT⟩ := hF.re hok hk
    obtain ⟨o, hO⟩ := Fst.ex (grP xs cs) cs.length
    have hl := hF.len
    rw [List.length_map] at hl
    have eo : M.D = .obj CR (KR.regF (c : Int) xs) := eo
    refine ⟨papD "growth" (sameAt cs) o, pl_pap str_ok.2.1 o, .inr ⟨c, xs, cs, o, hT, hO, by rw [eo], rfl⟩, 1, .lst (KR.insD xs), cs.map rD, rtR xs cs, k, "growth", grP xs cs, sameAt cs, o, .re hT, by rw [List.length_map]; exact hT.pos, by rw [List.length_map]; exact hl, by omega, fun i j => ?_, fun w i j hij hj hr => ?_, fun i j hb => ?_, by rw [List.length_map]; exact hO, rfl, rfl⟩
    · unfold rtR
      rw [if_pos rfl]
    · rw [List.length_map] at hj
      unfold rtR at hr
      split at hr
      · rename_i ew
        refine ⟨.inl ew, ?_⟩
        obtain ⟨a, ha⟩ : ∃ a, cs[i]? = some a := ⟨_, List.getElem?_eq_getElem (by omega)⟩
        unfold sameAt at hr
        have hr := of_decide_eq_true hr
        rw [ha] at hr
        unfold grP
        rw [← hr, ha]
        exact grB_same _ _
      · split at hr
        · rename_i ew
          exact ⟨.inr ew, hr⟩
        · cases hr
    · refine ⟨"growth", by simp [words], ?_⟩
      unfold rtR
      rw [if_neg (by decide), if_pos rfl]
      exact hb
section
variable {P : Program} {w : World} {K : PySem.W.Frag} {mg : Str → Option Value} {base : Heap} {C_Turing C_Registers C_InvalidMachine C_BadArgument : Addr}
end
end K89

set_option maxHeartbeats 4000000
namespace K89
open PySem L2 Ly Tu KT
/-! ## powers and entries -/
theorem bits_eq {e : Nat} (h : e ≠ 0) : Builtin.Int.intBits (e : Int) = Nat.log2 e + 1 := by
  unfold Builtin.Int.intBits
  have z : ((e : Int) == 0) = false := by
    rw [beq_eq_false_iff_ne]
    omega
  rw [z, Int.natAbs_natCast]
  rfl
theorem bits_lt (e : Nat) : e < 2 ^ Builtin.Int.intBits (e : Int) := by
  by_cases h : e = 0
  · subst h
    exact Nat.two_pow_pos _
  · rw [bits_eq h]
    exact (Nat.log2_lt h).mp (Nat.lt_succ_self _)
theorem bits_le {e : Nat} (h : e ≤ 100) : Builtin.Int.intBits (e : Int) ≤ 7 := by
  by_cases h0 : e = 0
  · subst h0
    decide
  · rw [bits_eq h0]
    have := (Nat.log2_lt (k := 7) h0).mpr (by omega)
    omega
theorem pow_small {b : Int} {k : Nat} (h0 : 0 ≤ b) (h1 : b < 64) (hk : k ≤ 40) : (b ^ k).natAbs < 2 ^ 250 := by
  obtain ⟨n, rfl⟩ := Int.eq_ofNat_of_zero_le h0
  rw [← Int.natCast_pow, Int.natAbs_natCast]
  have h2 : n ^ k ≤ 64 ^ k := Nat.pow_le_pow_left (by omega) k
  have h3 : 64 ^ k ≤ 64 ^ 40 := Nat.pow_le_pow_right (by decide) hk
  have h4 : 64 ^ 40 < 2 ^ 250 := by decide
  omega
def A_power : Sig := fun ds P => ∃ (b : Int) (e : Nat), 0 ≤ b ∧ b < 64 ∧ e ≤ 20 ∧ ds = [.int b, .int (e : Int)] ∧ P = (· = .int (b ^ e))
def A_ecount : Sig := fun ds P => ∃ st : Int, ds = [.int st] ∧ P = (· = .int (Bs st))
def A_entry : Sig := fun ds P => ∃ d : Dat, (d = .non ∨ ∃ w m f : Int, d = .tup [.int w, .int m, .int f] ∧ -1000 ≤ f ∧ f ≤ 1000 ∧ -1000 ≤ w ∧ w ≤ 1000) ∧ ds = [d] ∧ P = (· = .int (entD d))
def A_mkrule : Sig := fun ds P => ∃ (p : Nat) (w m f : Int), (0 ≤ w ∧ w ≤ 1) ∧ (m = -1 ∨ m = 0 ∨ m = 1) ∧ 0 ≤ f ∧ f ≤ 1000 ∧ ds = [.int (p : Int), .int (1 + 3 * (2 * f + w) + m + 1)] ∧ P = (· = rowD [((p / 2 : Nat) : Int), ((p % 2 : Nat) : Int), w, m, f])
section
variable {P : Program} {w : World} {K : PySem.W.Frag} {mg : Str → Option Value} {base : Heap} {C_Turing C_Registers C_InvalidMachine C_BadArgument : Addr}
theorem ok_power (D : Df K mg "power" s_power) (T : Txt K w mg C_Turing C_Registers C_InvalidMachine C_BadArgument) : C8.Cal P w K mg base 1 "power" (spOf Wd0 K A_power) [] := by
  refine cal_of D (fun _ _ _ _ _ _ us hl => match us, hl with | [_, _], _ => rfl) sc_power (spOf_len (n := 2) fun _ _ ⟨_, _, _, _, _, e, _⟩ => by rw [e]; rfl) fun f cdv A outer s H0 vs Q E hr h => ⟨_, (pss_cons (ps_set (i := 2) sc_power.nd rfl (by first | exact Or.inl rfl | exact Or.inr rfl) pe_int)
      (pss_cons (ps_for PassesOwn.never rfl (pi_revR rfl T.n_reversed (prg_1 rfl T.n_range (pe_bits (pv 1)))) (pg_name (i := 3) sc_power.nd rfl (by first | exact Or.inl rfl | exact Or.inr rfl))
        (pss_cons (ps_aug (i := 2) sc_power.nd rfl (by first | exact Or.inl rfl | exact Or.inr rfl) (pv 2) ip_mulW)
      (pss_one (ps_if (pt_truth (pe_op (r := rOdd) op_odd (pe_op (r := rShrN) op_shrN (pv 1) (pv 3)) pe_int) (fun _ => rfl)) (pss_one (ps_aug (i := 2) sc_power.nd rfl (by first | exact Or.inl rfl | exact Or.inr rfl) (pv 0) ip_mulW)) pss_nil))))
      (pss_one (ps_ret (pv 2))))), ?_⟩
  obtain ⟨G0, ds, P, k, r, ⟨b, e, b0, b1, he, rfl, rfl⟩, q⟩ := h
  have S := S4.start (N := N_power) k r
  have hlt := bits_lt e
  have hn := bits_le (e := e) (by omega)
  refine q_setx v_int S fun σ G H S => ?_
  generalize hN : Builtin.Int.intBits (e : Int) = n at hlt hn
  refine q_forRev (n := (n : Int)) (EvX.to (v_bits (v_var rfl)) (by rw [hN])) (by omega) S (fun i Γ O => O = [] ∧ ∃ z, Γ = [some (.int b), some (.int (e : Int)), some (.int (b ^ (e / 2 ^ (n - i)))), z]) ⟨rfl, none, ?_⟩ ?_ ?_
  · rw [Nat.sub_zero, Nat.div_eq_of_lt hlt, Int.pow_zero]
    rfl
  · rintro i Γ O σ G H hi ⟨rfl, z, rfl⟩ S
    have hi2 : i < n := by omega
    obtain ⟨m, hm⟩ : ∃ m, m = n - 1 - i := ⟨_, rfl⟩
    have e1 : n - i = m + 1 := by omega
    have e2 : n - (i + 1) = m := by omega
    have e3 : (n : Int) - 1 - (i : Int) = (m : Int) := by omega
    rw [e3, e1] at S
    have hd : e / 2 ^ (m + 1) ≤ 20 := Nat.le_trans (Nat.div_le_self _ _) he
    have hd2 : e / 2 ^ m ≤ 20 := Nat.le_trans (Nat.div_le_self _ _) he
    have hh : e / 2 ^ (m + 1) = e / 2 ^ m / 2 := by rw [Nat.pow_succ, Nat.div_div_eq_div_mul]
    have hv : b ^ (e / 2 ^ (m + 1)) * b ^ (e / 2 ^ (m + 1)) = b ^ (2 * (e / 2 ^ m / 2)) := by rw [← Int.pow_add, hh, Nat.two_mul]
    refine q_augC (a := b ^ (e / 2 ^ (m + 1))) (b := b ^ (e / 2 ^ (m + 1))) rfl (v_var rfl) (mulW_of (pow_small b0 b1 (by omega)) (pow_small b0 b1 (by omega))) S fun σ G H S => ?_
    rw [hv] at S
    have hsh : ((e : Int) / 2 ^ m) = ((e / 2 ^ m : Nat) : Int) := by norm_cast
    refine g_if (P := (· = decide (e / 2 ^ m % 2 = 1))) ?_ S (fun eb G H S => ?_) (fun eb G H S => ?_)
    · refine EvBX.to (b_truI (v_odd (n := e / 2 ^ m) (EvX.to (v_shrN (k := m) (v_var rfl) (v_var rfl)) (congrArg Dat.int hsh)) v_int)) ?_
      generalize e / 2 ^ m = x
      rcases Nat.mod_two_eq_zero_or_one x with h | h <;> rw [h] <;> rfl
    · have eb := of_decide_eq_true eb.symm
      refine g_augC (a := b ^ (2 * (e / 2 ^ m / 2))) (b := b) rfl (v_var rfl) (mulW_of (pow_small b0 b1 (by omega)) (by omega)) S fun σ G H S => ?_
      refine ⟨_, _, _, ⟨rfl, some (.int (m : Int)), ?_⟩, S⟩
      rw [e2, ← Int.pow_succ, show (2 * (e / 2 ^ m / 2)).succ = e / 2 ^ m by omega]
      rfl
    · have eb := of_decide_eq_false eb.symm
      refine ⟨_, _, _, ⟨rfl, some (.int (m : Int)), ?_⟩, S⟩
      rw [e2, show 2 * (e / 2 ^ m / 2) = e / 2 ^ m by omega]
      rfl
  · rintro Γ O σ G H ⟨rfl, z, rfl⟩ S
    have e0 : n - (n : Int).toNat = 0 := by omega
    rw [e0, Nat.pow_zero, Nat.div_one] at S
    exact g_ret (P := (· = .int (b ^ e))) (v_var rfl) S q
theorem ok_ecount (D : Df K mg "_entry_count" s_entry_count) (T : Txt K w mg C_Turing C_Registers C_InvalidMachine C_BadArgument) : C8.Cal P w K mg base 1 "_entry_count" (spOf Wd0 K A_ecount) [] := by
  refine cal_of D (fun _ _ _ _ _ _ us hl => match us, hl with | [_], _ => rfl) sc_entry_count (spOf_len (n := 1) fun _ _ ⟨_, e, _⟩ => by rw [e]; rfl) fun f cdv A outer s H0 vs Q E hr h => ⟨_, (pss_one (ps_ret (pe_op op_add (pe_op op_mul pe_int (pv 0)) pe_int))), ?_⟩
  obtain ⟨G0, ds, P, k, r, ⟨st, rfl, rfl⟩, q⟩ := h
  have S := S4.start (N := N_entry_count) k r
  exact g_ret (P := (· = .int (Bs st))) (v_add (v_mul v_int (v_var rfl) (.inl ⟨by omega, by omega⟩)) v_int) S q
theorem ok_mkrule (D : Df K mg "_rule" s_rule) (T : Txt K w mg C_Turing C_Registers C_InvalidMachine C_BadArgument) : C8.Cal P w K mg base 1 "_rule" (spOf Wd0 K A_mkrule) [] := by
  refine cal_of D (fun _ _ _ _ _ _ us hl => match us, hl with | [_, _], _ => rfl) sc_rule (spOf_len (n := 2) fun _ _ ⟨_, _, _, _, _, _, _, _, e, _⟩ => by rw [e]; rfl) fun f cdv A outer s H0 vs Q E hr h => ⟨_, (pss_cons (ps_asg (pe_callB call_divmodW (by rfl) T.n_divmod (by decide +kernel) (pa_cons (pe_op op_sub (pv 1) pe_int) (pa_cons pe_int pa_nil))) (pg_tup rfl (pgs_cons (pg_name (i := 2) sc_rule.nd rfl (by first | exact Or.inl rfl | exact Or.inr rfl)) (pgs_cons (pg_name (i := 3) sc_rule.nd rfl (by first | exact Or.inl rfl | exact Or.inr rfl)) pgs_nil))))
      (pss_one (ps_ret (pe_tup (pa_cons (pe_op op_fdiv (pv 0) pe_int) (pa_cons (pe_op (r := rOdd) op_odd (pv 0) pe_int) (pa_cons (pe_op (r := rOdd) op_odd (pv 2) pe_int) (pa_cons (pe_op op_sub (pv 3) pe_int) (pa_cons (pe_op op_fdiv (pv 2) pe_int) pa_nil))))))))), ?_⟩
  obtain ⟨G0, ds, P, k, r, ⟨p, w, m, f, hw, hm, f0, f1, rfl, rfl⟩, q⟩ := h
  have S := S4.start (N := N_rule) k r
  have e1 : (1 + 3 * (2 * f + w) + m + 1 - 1) / 3 = 2 * f + w := by omega
  have e2 : (1 + 3 * (2 * f + w) + m + 1 - 1) % 3 = m + 1 := by omega
  refine q_tup (js := [2, 3]) (ds := [.int (2 * f + w), .int (m + 1)]) (EvX.to (v_divmod (v_sub (v_var rfl) v_int) v_int ⟨by omega, PyProof.noPylong_small (by omega)⟩) (by rw [e1, e2])) rfl rfl S fun σ G H S => ?_
  obtain ⟨n, hn⟩ := Int.eq_ofNat_of_zero_le (show 0 ≤ 2 * f + w by omega)
  rw [hn] at S
  have e3 : ((n % 2 : Nat) : Int) = w := by omega
  have e4 : (n : Int) / 2 = f := by omega
  have e5 : (p : Int) / 2 = ((p / 2 : Nat) : Int) := by omega
  refine g_ret (EvX.to (v_tupx (a_consx (v_fdiv (v_var rfl) v_int ⟨by omega, by omega⟩) (a_consx (v_odd (v_var rfl) v_int) (a_consx (v_odd (v_var rfl) v_int) (a_consx (v_sub (v_var rfl) v_int) (a_consx (v_fdiv (v_var rfl) v_int ⟨by omega, by omega⟩) a_nil))))) (by simp)) ?_) S q
  rw [e3, e4, e5, show m + 1 - 1 = m by omega]
  rfl
end
/-! ## counts, indexes and machines, where they may raise -/
def manyI (st : Int) : Int := Bs st ^ (2 * st).toNat
def X_refuse (CB : Addr) : XSig := fun ds o => ∃ st : Int, ds = [.int st] ∧ o = if 1 ≤ st ∧ st ≤ 6 then .val (· = .non) else .err CB none
def X_mcount (CB : Addr) : XSig := fun ds o => ∃ st : Int, ds = [.int st] ∧ o = if 1 ≤ st ∧ st ≤ 6 then .val (· = .int (manyI st)) else .err CB none
def InIx (st ix : Int) : Prop := (1 ≤ st ∧ st ≤ 6) ∧ 0 ≤ ix ∧ ix < manyI st
instance (st ix : Int) : Decidable (InIx st ix) := by unfold InIx; exact inferInstance
def X_rindex (CB : Addr) : XSig := fun ds o => ∃ st ix : Int, ds = [.int st, .int ix] ∧ o = if InIx st ix then .val (· = .non) else .err CB none
def X_at (C CB : Addr) : XSig := fun ds o => ∃ st ix : Int, ds = [.int st, .int ix] ∧ o = if InIx st ix then .val (fun d => ∃ fsd, d = .obj C fsd ∧ TurG st 2 (decR (Bs st) ix (2 * st.toNat)) fsd) else .err CB none
theorem Bs_pos (st : Nat) : 0 < Bs st := by
  unfold Bs
  omega
theorem not_range {a b x : Int} {c : Bool} (e : c = !(decide (a ≤ x) && decide (x ≤ b))) : (c = true → ¬ (a ≤ x ∧ x ≤ b)) ∧ (c = false → a ≤ x ∧ x ≤ b) := by
  subst e
  by_cases h : a ≤ x <;> by_cases h2 : x ≤ b <;> simp [h, h2]
section
variable {P : Program} {w : World} {K : PySem.W.Frag} {mg : Str → Option Value} {base : Heap} {C_Turing C_Registers C_InvalidMachine C_BadArgument : Addr}
theorem ok_refuseX (D : Df K mg "_refuse_states" s_refuse_states) (T : Txt K w mg C_Turing C_Registers C_InvalidMachine C_BadArgument) : CalX P w K mg base 1 "_refuse_states" (spX Wd0 K (X_refuse C_BadArgument)) := by
  refine calx_of D (fun _ _ _ _ _ _ us hl => match us, hl with | [_], _ => rfl) sc_refuse_states (spX_len (n := 1) fun _ _ ⟨_, e, _⟩ => by rw [e]; rfl) fun f cdv A outer s H0 vs Q E hr h => ⟨_, (pss_one (ps_if (pt_not (pt_chain op_le op_le pe_int (pv 0) (C8.pe_gc (v := .int 6) rfl T.m_MOST_STATES_census))) (pss_one (ps_raiseEN rfl (L2N.takes_of rfl rfl rfl rfl) T.e_BadArgument rfl)) pss_nil)), ?_⟩
  obtain ⟨G0, ds, o, k, r, ⟨st, rfl, rfl⟩, q⟩ := h
  have S := S4.start (N := N_refuse_states) k r
  refine g_if (P := (· = !(decide (1 ≤ st) && decide (st ≤ 6)))) (b_notx (b_testx (v_chain v_int (v_var rfl) v_int r_le r_le))) S (fun e G H S => ?_) fun e G H S => ?_
  · rw [if_neg ((not_range e).1 rfl)] at q
    exact out_raise q S
  · rw [if_pos ((not_range e).2 rfl)] at q
    exact out_val q S rfl .non
theorem ok_mcountX (D : Df K mg "machine_count" s_machine_count) (T : Txt K w mg C_Turing C_Registers C_InvalidMachine C_BadArgument) (c_refuse_states : CalX P w K mg base 1 "_refuse_states" (spX Wd0 K (X_refuse C_BadArgument))) (c_entry_count : C8.Cal P w K mg base 1 "_entry_count" (spOf Wd0 K A_ecount) []) (c_power : C8.Cal P w K mg base 1 "power" (spOf Wd0 K A_power) []) : CalX P w K mg base 2 "machine_count" (spX Wd0 K (X_mcount C_BadArgument)) := by
  refine calx_of D (fun _ _ _ _ _ _ us hl => match us, hl with | [_], _ => rfl) sc_machine_count (spX_len (n := 1) fun _ _ ⟨_, e, _⟩ => by rw [e]; rfl) fun f cdv A outer s H0 vs Q E hr h => ⟨_, (pss_cons (ps_expr (pe_cXP c_refuse_states hr (by decide) (L2N.takes_of rfl rfl rfl rfl) rfl (pa_cons (pv 0) pa_nil)))
      (pss_one (ps_ret (C8.pe_c c_power hr (by decide) rfl (pa_cons (C8.pe_c c_entry_count hr (by decide) rfl (pa_cons (pv 0) pa_nil)) (pa_cons (pe_op op_mul pe_int (pv 0)) pa_nil)))))), ?_⟩
  obtain ⟨G0, ds, o, k, r, ⟨st, rfl, rfl⟩, q⟩ := h
  have S := S4.start (N := N_machine_count) k r
  by_cases hs : 1 ≤ st ∧ st ≤ 6
  · rw [if_pos hs] at q
    refine q_dropP (o := .val (· = .non)) (a_consx (v_var rfl) a_nil) ⟨st, rfl, (if_pos hs).symm⟩ S (fun _ _ G H S => ?_) (fun _ _ e => nomatch e)
    exact g_ret (P := (· = .int (manyI st))) (v_call0x (a_consx (v_call0x (P := (· = .int (Bs st))) (a_consx (v_var rfl) a_nil) ⟨_, rfl, rfl⟩) (a_consx (EvX.to (v_mul v_int (v_var rfl) (.inl ⟨by omega, by omega⟩)) (congrArg Dat.int (show (2 : Int) * st = (((2 * st).toNat : Nat) : Int) by omega))) a_nil)) ⟨Bs st, (2 * st).toNat, by unfold Bs; omega, by unfold Bs; omega, by omega, rfl, rfl⟩) S q
  · rw [if_neg hs] at q
    refine q_dropP (o := .err C_BadArgument none) (a_consx (v_var rfl) a_nil) ⟨st, rfl, (if_neg hs).symm⟩ S (fun _ e => nomatch e) (fun C fs e d G H S h1 h2 => ?_)
    cases e
    exact q d G H S.stp h1 h2
theorem ok_rindexX (D : Df K mg "_refuse_index" s_refuse_index) (T : Txt K w mg C_Turing C_Registers C_InvalidMachine C_BadArgument) (c_machine_count : CalX P w K mg base 2 "machine_count" (spX Wd0 K (X_mcount C_BadArgument))) : CalX P w K mg base 3 "_refuse_index" (spX Wd0 K (X_rindex C_BadArgument)) := by
  refine calx_of D (fun _ _ _ _ _ _ us hl => match us, hl with | [_, _], _ => rfl) sc_refuse_index (spX_len (n := 2) fun _ _ ⟨_, _, e, _⟩ => by rw [e]; rfl) fun f cdv A outer s H0 vs Q E hr h => ⟨_, (pss_one (ps_if (pt_not (pt_chain op_le op_lt pe_int (pv 1) (pe_cXP c_machine_count hr (by decide) (L2N.takes_of rfl rfl rfl rfl) rfl (pa_cons (pv 0) pa_nil)))) (pss_one (ps_raiseEN rfl (L2N.takes_of rfl rfl rfl rfl) T.e_BadArgument rfl)) pss_nil)), ?_⟩
  obtain ⟨G0, ds, o, k, r, ⟨st, ix, rfl, rfl⟩, q⟩ := h
  have S := S4.start (N := N_refuse_index) k r
  refine g_ifNC (i := 0) (j := ix) (A := X_mcount C_BadArgument) v_int (v_var rfl) (a_consx (v_var rfl) a_nil) ⟨st, rfl, rfl⟩ S (fun hn G H S => ?_) (fun h0 P eP => ?_) (fun h0 C fs eP d G H S h1 h2 => ?_)
  · rw [if_neg (fun z => hn z.2.1)] at q
    exact out_raise q S
  · by_cases hs : 1 ≤ st ∧ st ≤ 6
    · rw [if_pos hs] at eP
      cases eP
      refine ⟨manyI st, fun d e => e, fun hlt G H S => ?_, fun hlt G H S => ?_⟩
      · rw [if_pos ⟨hs, h0, hlt⟩] at q
        exact out_val q S rfl .non
      · rw [if_neg (fun z => hlt z.2.2)] at q
        exact out_raise q S
    · rw [if_neg hs] at eP
      cases eP
  · by_cases hs : 1 ≤ st ∧ st ≤ 6
    · rw [if_pos hs] at eP
      cases eP
    · rw [if_neg hs] at eP
      cases eP
      rw [if_neg (fun z => hs z.1)] at q
      exact q d G H S.stp h1 h2
theorem ok_atX (D : Df K mg "machine_at" s_machine_at) (T : Txt K w mg C_Turing C_Registers C_InvalidMachine C_BadArgument) (c_refuse_index : CalX P w K mg base 3 "_refuse_index" (spX Wd0 K (X_rindex C_BadArgument))) (c_entry_count : C8.Cal P w K mg base 1 "_entry_count" (spOf Wd0 K A_ecount) []) (c_rule : C8.Cal P w K mg base 1 "_rule" (spOf Wd0 K A_mkrule) []) (c_Turing_init : MakS P w K mg base 2 "Turing" C_Turing (spInitQ K C_Turing C_InvalidMachine A_tinit)) : CalX P w K mg base 4 "machine_at" (spX Wd0 K (X_at C_Turing C_BadArgument)) := by
  refine calx_of D (fun _ _ _ _ _ _ us hl => match us, hl with | [_, _], _ => rfl) sc_machine_at (spX_len (n := 2) fun _ _ ⟨_, _, e, _⟩ => by rw [e]; rfl) fun f cdv A outer s H0 vs Q E hr h => ⟨_, (pss_cons (ps_expr (pe_cXP c_refuse_index hr (by decide) (L2N.takes_of rfl rfl rfl rfl) rfl (pa_cons (pv 0) (pa_cons (pv 1) pa_nil))))
      (pss_cons (ps_set (i := 2) sc_machine_at.nd rfl (by first | exact Or.inl rfl | exact Or.inr rfl) (pe_lst pa_nil))
      (pss_cons (ps_for (passes_of rfl) rfl (pi_range1 rfl T.n_range (pa_cons (pe_op op_mul pe_int (pv 0)) pa_nil)) (pg_name (i := 3) sc_machine_at.nd rfl (by first | exact Or.inl rfl | exact Or.inr rfl))
        (pss_cons (ps_asg (pe_callB call_divmodW (by rfl) T.n_divmod (by decide +kernel) (pa_cons (pv 1) (pa_cons (C8.pe_c c_entry_count hr (by decide) rfl (pa_cons (pv 0) pa_nil)) pa_nil))) (pg_tup rfl (pgs_cons (pg_name (i := 1) sc_machine_at.nd rfl (by first | exact Or.inl rfl | exact Or.inr rfl)) (pgs_cons (pg_name (i := 4) sc_machine_at.nd rfl (by first | exact Or.inl rfl | exact Or.inr rfl)) pgs_nil))))
      (pss_one (ps_if (pt_cmpR op_gt (pv 4) pe_int (nomark _)) (pss_one (ps_expr (pe_bm PySem.F.plainAttrs_list PySem.F.slot_list_append PySem.F.type_list_append mt_append (pv 2) (pa_cons (C8.pe_c c_rule hr (by decide) rfl (pa_cons (pv 3) (pa_cons (pv 4) pa_nil))) pa_nil)))) pss_nil))))
      (pss_one (ps_ret (pe_mkX c_Turing_init hr (by decide) rfl (pa_cons (pv 0) (pa_cons pe_int (pa_cons (pv 2) pa_nil))))))))), ?_⟩
  obtain ⟨G0, ds, o, k, r, ⟨sti, ix, rfl, rfl⟩, q⟩ := h
  have S := S4.start (N := N_machine_at) k r
  by_cases hi : InIx sti ix
  rotate_left
  · rw [if_neg hi] at q
    refine q_dropP (o := .err C_BadArgument none) (a_consx (v_var rfl) (a_consx (v_var rfl) a_nil)) ⟨sti, ix, rfl, (if_neg hi).symm⟩ S (fun _ e => nomatch e) (fun C fs e d G H S h1 h2 => ?_)
    cases e
    exact q d G H S.stp h1 h2
  rw [if_pos hi] at q
  obtain ⟨hs, hi0, hi1⟩ := id hi
  obtain ⟨st, rfl⟩ := Int.eq_ofNat_of_zero_le (a := sti) (by omega)
  have h1 : 1 ≤ st := by omega
  have h2 : st ≤ 6 := by omega
  have hB := Bs_pos st
  have hok : TOk st 2 (decR (Bs st) ix (2 * st)) := dec_ok h1 h2
  refine q_dropP (o := .val (· = .non)) (a_consx (v_var rfl) (a_consx (v_var rfl) a_nil)) ⟨st, ix, rfl, (if_pos hi).symm⟩ S (fun _ _ G H S => ?_) (fun _ _ e => nomatch e)
  refine q_setN (P := (· = [])) (n_lst a_nil fun ds e => by rw [e]; simp) S fun l ds σ G H e S => ?_
  subst e
  refine q_for1 (n := ((2 * st : Nat) : Int)) (EvA.imp (a_consx (v_mul v_int (v_var (d := .int (st : Int)) rfl) (.inl ⟨by omega, by omega⟩)) a_nil) fun ds e => by rw [e]; exact congrArg (fun x => [Dat.int x]) (show (2 : Int) * (st : Int) = ((2 * st : Nat) : Int) by omega)) (by omega) S (fun p Γ O => O = [(l, (decR (Bs st) ix p).map rowD)] ∧ ∃ z1 z2, Γ = [some (.int (st : Int)), some (.int (ix / Bs st ^ p)), some (.adr l), z1, z2]) ⟨rfl, none, none, by rw [Int.pow_zero, Int.ediv_one]; rfl⟩ ?_ ?_ (by omega)
  · rintro p Γ O σ G H hp ⟨rfl, z1, z2, rfl⟩ S
    have hp2 : p < 2 * st := by omega
    obtain ⟨e0, e1⟩ := digI_bd (ix := ix) hB p
    refine q_tup (js := [1, 4]) (ds := [.int (ix / Bs st ^ (p + 1)), .int (digI (Bs st) ix p)]) (EvX.to (v_divmod (v_var rfl) (v_call0x (P := (· = .int (Bs st))) (a_consx (v_var rfl) a_nil) ⟨_, rfl, rfl⟩) ⟨hB, ?_⟩) (by rw [div_pow hB]; rfl)) rfl rfl S fun σ G H S => ?_
    · exact PyProof.noPylong_small (by unfold Bs; omega)
    have hle := dec_len (Bs st) ix p
    by_cases hz : digI (Bs st) ix p = 0
    · refine g_if (P := (· = false)) (EvBX.to (b_testx (v_gt (v_var rfl) v_int)) (by rw [hz]; rfl)) S (fun e => nomatch e) fun _ G H S => ?_
      exact ⟨_, _, _, ⟨by rw [dec_succ, hz]; simp [decE], some (.int (p : Int)), some (.int (digI (Bs st) ix p)), rfl⟩, S⟩
    · refine g_if (P := (· = true)) (EvBX.to (b_testx (v_gt (v_var rfl) v_int)) (decide_eq_true (by omega))) S (fun _ G H S => ?_) (fun e => nomatch e)
      have hd : decE p (digI (Bs st) ix p) = some (decRule p (digI (Bs st) ix p)) := by unfold decE; rw [if_neg hz]
      have hds := dec_succ (Bs st) ix p
      rw [hd] at hds
      generalize hde : digI (Bs st) ix p = e at *
      have hb6 : e < 6 * (st : Int) + 1 := e1
      refine g_app (P := (· = rowD (decRule p e))) (v_var rfl) (v_call0x (a_consx (v_var rfl) (a_consx (v_var rfl) a_nil)) ⟨p, (e - 1) / 3 % 2, (e - 1) % 3 - 1, (e - 1) / 6, by omega, by omega, by omega, by omega, ?_, rfl⟩) S (by rw [List.length_map]; omega) fun d G H ed S => ?_
      · rw [show 1 + 3 * (2 * ((e - 1) / 6) + (e - 1) / 3 % 2) + ((e - 1) % 3 - 1) + 1 = e by omega]
      subst ed
      refine ⟨_, _, _, ⟨?_, some (.int (p : Int)), some (.int e), rfl⟩, S⟩
      rw [hds, List.map_append]
      rfl
  · rintro Γ O σ G H ⟨rfl, z1, z2, rfl⟩ S
    have e0 : ((2 * st : Nat) : Int).toNat = 2 * st := by omega
    rw [e0] at S
    obtain ⟨G, S⟩ := S4.keep (i := 2) rfl S
    have hle := dec_len (Bs st) ix (2 * st)
    refine g_ret (v_makeQ (a_consx (v_var rfl) (a_consx v_int (a_consx (v_var rfl) a_nil))) ⟨st, 2, decR (Bs st) ix (2 * st), fun r hr => (goodB_bd (hok.good r hr) hok.s1.2 hok.s2.2).1, by omega, rfl, (tOk_iff.mpr hok).symm, rfl⟩) S q
end

end K89

set_option maxHeartbeats 4000000
namespace K89
open PySem L2 Ly Tu KT
/-! ## start, content, _greater, _law_entries -/
def A_start0 : Sig := fun ds P => ds = [.tup []] ∧ P = (· = cfD 0 [] 0 [])
def cont (l : List Int) (x : Int) (r : List Int) : List Int := (strip (strip (l.reverse ++ [x] ++ r)).reverse).reverse
def spCont (K : PySem.W.Frag) : Sp := fun vs H Q _ => ∃ (G : Hp) (q s : Int) (l r : List Int), Ok Wd0 G H ∧ Reps K G vs [cfD q l s r] ∧ l.length ≤ 9000 ∧ r.length ≤ 9000 ∧ ∀ p xs G2 H2, Stp Wd0 G H G2 H2 → FrzT G2 p xs → Reps K G2 xs (dI (cont l s r)) → Q (.ref p) H2
def optP : Option (Int × Int) → Dat
  | none => .non
  | some (a, b) => .tup [.int a, .int b]
def grO (o : Option (Int × Int)) (n ix : Int) : Option (Int × Int) := match o with
  | none => some (n, ix)
  | some (a, b) => if n > a then some (n, ix) else some (a, b)
def A_gr : Sig := fun ds P => ∃ (o : Option (Int × Int)) (n ix : Int), ds = [optP o, .int n, .int ix] ∧ P = (· = optP (grO o n ix))
def A_entries : Sig := fun ds P => ∃ (st : Nat) (ix : Int), 1 ≤ st ∧ st ≤ 6 ∧ ds = [.int (st : Int), .int ix] ∧ P = (· = .lst ((decR (Bs st) ix (2 * st)).map rowD))
/-- how many ones -/
def ones (ns : List Int) : Nat := ns.countP fun x => decide (x = 1)
theorem strip_ones (ns : List Int) : ones (strip ns) = ones ns := by
  unfold strip ones
  rw [List.countP_reverse]
  have : ∀ l : List Int, (l.dropWhile (· == 0)).countP (fun x => decide (x = 1)) = l.countP fun x => decide (x = 1) := fun l => by
    induction l with
    | nil => rfl
    | cons a l ih =>
      by_cases h : a = 0
      · subst h
        rw [List.dropWhile_cons_of_pos (by decide), ih, List.countP_cons_of_neg (by decide)]
      · rw [List.dropWhile_cons_of_neg (by simpa using h)]
  rw [this, List.countP_reverse]
theorem cont_ones (l : List Int) (x : Int) (r : List Int) : ones (cont l x r) = ones (l ++ [x] ++ r) := by
  unfold cont
  have rev : ∀ ns : List Int, ones ns.reverse = ones ns := fun ns => by
    unfold ones
    rw [List.countP_reverse]
  have app : ∀ a b : List Int, ones (a ++ b) = ones a + ones b := fun a b => by
    unfold ones
    rw [List.countP_append]
  rw [rev, strip_ones, rev, strip_ones, app, app, app, app, rev]
theorem ones_eqv (ns : List Int) : (dI ns).countP (fun e => PyData.eqv (toPy e) (toPy (.int 1))) = ones ns := by
  unfold ones
  rw [List.countP_map]
  congr 1
section
variable {P : Program} {w : World} {K : PySem.W.Frag} {mg : Str → Option Value} {base : Heap} {C_Turing C_Registers C_InvalidMachine C_BadArgument : Addr}
theorem ok_start0 (D : Df K mg "start" s_start) (T : Txt K w mg C_Turing C_Registers C_InvalidMachine C_BadArgument) (c_without_end_blanks : C8.Cal P w K mg base 1 "without_end_blanks" (spOf Wd0 K A_strip) []) : C8.Cal P w K mg base 2 "start" (spOf Wd0 K A_start0) [] := by
  refine cal_of D (fun _ _ _ _ _ _ us hl => match us, hl with | [_], _ => rfl) sc_start (spOf_len (n := 1) fun _ _ ⟨e, _⟩ => by rw [e]; rfl) fun f cdv A outer s H0 vs Q E hr h => ⟨_, (pss_cons (ps_set (i := 1) sc_start.nd rfl (by first | exact Or.inl rfl | exact Or.inr rfl) (C8.pe_c c_without_end_blanks hr (by decide) rfl (pa_cons (pv 0) pa_nil)))
      (pss_cons (ps_if (pt_not (pt_truth (pv 1) (fun _ => rfl))) (pss_one (ps_ret (pe_tup (pa_cons pe_int (pa_cons (pe_tup pa_nil) (pa_cons (C8.pe_gc (v := .int 0) rfl T.m_BLANK) (pa_cons (pe_tup pa_nil) pa_nil))))))) pss_nil)
      (pss_one (ps_ret (pe_tup (pa_cons pe_int (pa_cons (pe_tup pa_nil) (pa_cons (pe_ix (r := rIxT K) ix_tup (pv 1) pe_int (fun _ _ => rfl)) (pa_cons (pe_slice (r := rSlA K) sl_tupA (pv 1) (po_some pe_int) po_none) pa_nil))))))))), ?_⟩
  obtain ⟨G0, ds, P, k, r, ⟨rfl, rfl⟩, q⟩ := h
  have S := S4.start (N := N_start) k r
  refine q_setx (d := .tup []) (v_call0x (a_consx (v_var (i := 0) (d := .tup []) rfl) a_nil) ⟨[], by simp, rfl, rfl⟩) S fun σ G H S => ?_
  refine q_when (b_notx (b_truT (v_var (i := 1) (d := .tup []) rfl))) S (fun _ G H S => ?_) (fun e => nomatch e)
  exact g_ret (EvX.to (v_tupx (a_consx v_int (a_consx (v_tupx a_nil (by simp)) (a_consx (v_cn fun _ => .int _) (a_consx (v_tupx a_nil (by simp)) a_nil)))) (by simp)) rfl) S q
theorem ok_content (D : Df K mg "content" s_content) (T : Txt K w mg C_Turing C_Registers C_InvalidMachine C_BadArgument) (c_without_end_blanks : C8.Cal P w K mg base 1 "without_end_blanks" (spOf Wd0 K A_strip) []) : C8.Cal P w K mg base 2 "content" (spCont K) [] := by
  refine cal_of D (fun _ _ _ _ _ _ us hl => match us, hl with | [_], _ => rfl) sc_content (fun vs H Q E ⟨_, _, _, _, _, _, h, _⟩ => h.length) fun f cdv A outer s H0 vs Q E hr h => ⟨_, (pss_cons (ps_asg (pv 0) (pg_tup rfl (pgs_cons (pg_name (i := 1) sc_content.nd rfl (by first | exact Or.inl rfl | exact Or.inr rfl)) (pgs_cons (pg_name (i := 2) sc_content.nd rfl (by first | exact Or.inl rfl | exact Or.inr rfl)) (pgs_cons (pg_name (i := 3) sc_content.nd rfl (by first | exact Or.inl rfl | exact Or.inr rfl)) (pgs_cons (pg_name (i := 4) sc_content.nd rfl (by first | exact Or.inl rfl | exact Or.inr rfl)) pgs_nil))))))
      (pss_cons (ps_set (i := 5) sc_content.nd rfl (by first | exact Or.inl rfl | exact Or.inr rfl) (pe_revT (C8.pe_c c_without_end_blanks hr (by decide) rfl (pa_cons (pe_op (r := rCatA K) op_catA (pe_op (r := rCatA K) op_catA (pe_revT (pv 2)) (pe_tup (pa_cons (pv 3) pa_nil))) (pv 4)) pa_nil))))
      (pss_one (ps_ret (pe_revTF (C8.pe_c c_without_end_blanks hr (by decide) rfl (pa_cons (pv 5) pa_nil))))))), ?_⟩
  obtain ⟨G0, st, x, l, rr, k, r, hl, hr2, q⟩ := h
  have S := S4.start (N := N_content) k r
  have e1 : (dI l).reverse ++ [Dat.int x] ++ dI rr = dI (l.reverse ++ [x] ++ rr) := by simp
  refine q_tup (js := [1, 2, 3, 4]) (ds := [.int st, .tup (dI l), .int x, .tup (dI rr)]) (v_var (i := 0) rfl) rfl rfl S fun σ G H S => ?_
  have hz := strip_len (l.reverse ++ [x] ++ rr)
  have hz2 : (l.reverse ++ [x] ++ rr).length ≤ 18001 := by simp; omega
  refine q_setx (d := .tup (dI (strip (l.reverse ++ [x] ++ rr)).reverse)) (EvX.to (v_revT (v_call0x (a_consx (EvX.to (v_cat (v_cat (v_revT (v_var (i := 2) (d := .tup (dI l)) rfl)) (v_tupx (a_consx (v_var (i := 3) (d := .int x) rfl) a_nil) (by simp)) (by simp; omega)) (v_var (i := 4) (d := .tup (dI rr)) rfl) (by simp; omega)) (congrArg Dat.tup e1)) a_nil) ⟨l.reverse ++ [x] ++ rr, by omega, rfl, rfl⟩)) (congrArg Dat.tup (List.map_reverse ..).symm)) S fun σ G H S => ?_
  have hv : EvX Wd0 K _ _ _ := v_call0x (P := (· = .tup (dI (strip (strip (l.reverse ++ [x] ++ rr)).reverse)))) (A := A_strip) (E := E) (a_consx (v_var (i := 5) (Γ := [some (cfD st l x rr), some (.int st), some (.tup (dI l)), some (.int x), some (.tup (dI rr)), some (.tup (dI (strip (l.reverse ++ [x] ++ rr)).reverse))]) (d := .tup (dI (strip (l.reverse ++ [x] ++ rr)).reverse)) rfl) a_nil) ⟨_, by rw [List.length_reverse]; omega, rfl, rfl⟩
  refine hv σ G H S.env S.ok _ fun v d G2 H2 s e r2 => ?_
  subst e
  obtain ⟨a, xs, rfl, ha, r3⟩ := r2.tup_inv
  have k2 := s.ok S.ok
  refine ⟨a, xs, rfl, ex_t k2.ex ha, fun p ob hp o1 o2 => ?_⟩
  have st2 : Stp Wd0 G2 H2 _ _ := Stp.new (o := .frz ob (.tup xs.reverse)) k2 hp
  refine q p xs.reverse _ _ ((S.stp.trans s).trans st2) ⟨ob, upd_same, o1, o2⟩ ?_
  have := (r3.reverse).mono st2.gg
  unfold cont
  rwa [show (dI (strip (strip (l.reverse ++ [x] ++ rr)).reverse)).reverse = dI (strip (strip (l.reverse ++ [x] ++ rr)).reverse).reverse from (List.map_reverse ..).symm] at this
theorem v_content {W : Wd} {Γ : List (Option Dat)} {tA : TA} {E : XK} {q s : Int} {l r : List Int} (h : EvAX W K tA Γ [cfD q l s r]) (h1 : l.length ≤ 9000) (h2 : r.length ≤ 9000) : EvF W K (tCall (spCont K) [] E tA) Γ (dI (cont l s r)) := fun σ G H n k Q qq =>
  h σ G H n k _ fun vs ds G2 H2 st e rr => by
    subst e
    have k2 := st.ok k
    refine ⟨G2, q, s, l, r, k2.pure, by rw [List.append_nil]; exact rr, h1, h2, fun p xs G3 H3 t f r3 => qq p xs G3 H3 (st.trans (Stp.of0 k2 t)) f r3⟩
theorem ok_gr (D : Df K mg "_greater" s_greater) (T : Txt K w mg C_Turing C_Registers C_InvalidMachine C_BadArgument) : C8.Cal P w K mg base 1 "_greater" (spOf Wd0 K A_gr) [] := by
  refine cal_of D (fun _ _ _ _ _ _ us hl => match us, hl with | [_, _, _], _ => rfl) sc_greater (spOf_len (n := 3) fun _ _ ⟨_, _, _, e, _⟩ => by rw [e]; rfl) fun f cdv A outer s H0 vs Q E hr h => ⟨_, (pss_cons (ps_if (PW.pt (pw_or (pt_cmp (pc_isN (pv 0))) (pw_or1 (pt_cmpR op_gt (pv 1) (pe_ix (r := rIxT K) ix_tup (pv 0) pe_int (fun _ _ => rfl)) (nomark _))))) (pss_one (ps_ret (pe_tup (pa_cons (pv 1) (pa_cons (pv 2) pa_nil))))) pss_nil)
      (pss_one (ps_ret (pv 0)))), ?_⟩
  obtain ⟨G0, ds, P, k, r, ⟨o, n, ix, rfl, rfl⟩, q⟩ := h
  have S := S4.start (N := N_greater) k r
  have rt : ∀ {Γ : List (Option Dat)}, Γ[1]? = some (some (.int n)) → Γ[2]? = some (some (.int ix)) → EvX Wd0 K (tTup (tCons (tVar 1) (tCons (tVar 2) tNil))) Γ (.tup [.int n, .int ix]) := fun h1 h2 => v_tupx (a_consx (v_var h1) (a_consx (v_var h2) a_nil)) (by simp)
  cases o with
  | none =>
    refine q_when (P := (· = true)) (EvBX.to (b_orx (a := true) (b := true) (EvBX.to (b_testx (v_isNx (v_var (i := 0) (d := .non) rfl))) rfl) fun h => nomatch h) rfl) S (fun _ G H S => ?_) (fun e => nomatch e)
    exact g_ret (P := (· = optP (some (n, ix)))) (rt rfl rfl) S q
  | some p =>
    obtain ⟨a, b⟩ := p
    refine q_when (P := (· = decide (n > a))) (EvBX.to (b_orx (a := false) (b := decide (n > a)) (EvBX.to (b_testx (v_isNx (v_var (i := 0) (d := .tup [.int a, .int b]) rfl))) rfl) fun _ => b_testx (v_gt (v_var (i := 1) (d := .int n) rfl) (v_ix0 (d := .int a) (v_var (i := 0) (d := .tup [.int a, .int b]) rfl) rfl))) (Bool.false_or _)) S (fun e G H S => ?_) fun e G H S => ?_
    · refine g_ret (P := (· = optP (grO (some (a, b)) n ix))) (EvX.to (rt rfl rfl) ?_) S q
      unfold grO
      simp only [if_pos (of_decide_eq_true e.symm)]
      rfl
    · refine g_ret (P := (· = optP (grO (some (a, b)) n ix))) (EvX.to (v_var (i := 0) (d := .tup [.int a, .int b]) rfl) ?_) S q
      unfold grO
      simp only [if_neg (of_decide_eq_false e.symm)]
      rfl
theorem ok_entries (D : Df K mg "_law_entries" s_law_entries) (T : Txt K w mg C_Turing C_Registers C_InvalidMachine C_BadArgument) : C8.Cal P w K mg base 1 "_law_entries" (spOf Wd0 K A_entries) [] := by
  refine cal_of D (fun _ _ _ _ _ _ us hl => match us, hl with | [_, _], _ => rfl) sc_law_entries (spOf_len (n := 2) fun _ _ ⟨_, _, _, _, e, _⟩ => by rw [e]; rfl) fun f cdv A outer s H0 vs Q E hr h => ⟨_, (pss_cons (ps_set (i := 2) sc_law_entries.nd rfl (by first | exact Or.inl rfl | exact Or.inr rfl) (pe_lst pa_nil))
      (pss_cons (ps_for PassesOwn.never rfl (pi_range1 rfl T.n_range (pa_cons (pe_op op_mul pe_int (pv 0)) pa_nil)) (pg_name (i := 3) sc_law_entries.nd rfl (by first | exact Or.inl rfl | exact Or.inr rfl))
        (pss_cons (ps_set (i := 4) sc_law_entries.nd rfl (by first | exact Or.inl rfl | exact Or.inr rfl) (pe_op op_mod (pe_callTy call_int1 (by rfl) T.n_int (by decide +kernel) (pa_cons (pv 1) pa_nil)) (pe_op op_add (pe_op op_mul pe_int (pv 0)) pe_int)))
      (pss_cons (ps_set (i := 1) sc_law_entries.nd rfl (by first | exact Or.inl rfl | exact Or.inr rfl) (pe_op op_fdiv (pv 1) (pe_op op_add (pe_op op_mul pe_int (pv 0)) pe_int)))
      (pss_one (ps_if (pt_cmpR op_gt (pv 4) pe_int (nomark _)) (pss_one (ps_expr (pe_bm PySem.F.plainAttrs_list PySem.F.slot_list_append PySem.F.type_list_append mt_append (pv 2) (pa_cons (pe_tup (pa_cons (pe_op op_fdiv (pv 3) pe_int) (pa_cons (pe_op op_mod (pv 3) pe_int) (pa_cons (pe_op op_mod (pe_op op_fdiv (pe_op op_sub (pv 4) pe_int) pe_int) pe_int) (pa_cons (pe_op op_sub (pe_op op_mod (pe_op op_sub (pv 4) pe_int) pe_int) pe_int) (pa_cons (pe_op op_fdiv (pe_op op_sub (pv 4) pe_int) pe_int) pa_nil)))))) pa_nil)))) pss_nil)))))
      (pss_one (ps_ret (pv 2))))), ?_⟩
  obtain ⟨G0, ds, P, k, r, ⟨st, ix, h1, h2, rfl, rfl⟩, q⟩ := h
  have S := S4.start (N := N_law_entries) k r
  have hB := Bs_pos st
  refine q_setN (P := (· = [])) (n_lst a_nil fun ds e => by rw [e]; simp) S fun l ds σ G H e S => ?_
  subst e
  have bs : ∀ {Γ : List (Option Dat)}, Γ[0]? = some (some (.int (st : Int))) → EvX Wd0 K _ Γ (.int (Bs st)) := fun {Γ} h => EvX.to (v_add (v_mul v_int (v_var (i := 0) (d := .int (st : Int)) h) (.inl ⟨by omega, by omega⟩)) v_int) (show Dat.int (6 * (st : Int) + 1) = .int (Bs st) from rfl)
  refine q_for1 (n := ((2 * st : Nat) : Int)) (EvA.imp (a_consx (v_mul v_int (v_var (i := 0) (d := .int (st : Int)) rfl) (.inl ⟨by omega, by omega⟩)) a_nil) fun ds e => by rw [e]; exact congrArg (fun x => [Dat.int x]) (show (2 : Int) * (st : Int) = ((2 * st : Nat) : Int) by omega)) (by omega) S (fun p Γ O => O = [(l, (decR (Bs st) ix p).map rowD)] ∧ ∃ z1 z2, Γ = [some (.int (st : Int)), some (.int (ix / Bs st ^ p)), some (.adr l), z1, z2]) ⟨rfl, none, none, by rw [Int.pow_zero, Int.ediv_one]; rfl⟩ ?_ ?_ (by omega)
  · rintro p Γ O σ G H hp ⟨rfl, z1, z2, rfl⟩ S
    have hp2 : p < 2 * st := by omega
    obtain ⟨e0, e1⟩ := digI_bd (ix := ix) hB p
    have hle := dec_len (Bs st) ix p
    have hBs : Bs st ≤ 37 := by unfold Bs; omega
    refine q_setx (d := .int (digI (Bs st) ix p)) (v_mod (v_int1 (v_var (i := 1) (d := .int (ix / Bs st ^ p)) rfl)) (bs rfl) hB) S fun σ G H S => ?_
    refine q_setx (d := .int (ix / Bs st ^ (p + 1))) (EvX.to (v_fdiv (v_var (i := 1) (d := .int (ix / Bs st ^ p)) rfl) (bs rfl) ⟨by omega, by omega⟩) (by rw [div_pow hB])) S fun σ G H S => ?_
    by_cases hz : digI (Bs st) ix p = 0
    · refine g_if (P := (· = false)) (EvBX.to (b_testx (v_gt (v_var (i := 4) (d := .int (digI (Bs st) ix p)) rfl) v_int)) (by rw [hz]; rfl)) S (fun e => nomatch e) fun _ G H S => ?_
      exact ⟨_, _, _, ⟨by rw [dec_succ, hz]; simp [decE], some (.int (p : Int)), some (.int (digI (Bs st) ix p)), rfl⟩, S⟩
    · refine g_if (P := (· = true)) (EvBX.to (b_testx (v_gt (v_var (i := 4) (d := .int (digI (Bs st) ix p)) rfl) v_int)) (decide_eq_true (by omega))) S (fun _ G H S => ?_) (fun e => nomatch e)
      have hd : decE p (digI (Bs st) ix p) = some (decRule p (digI (Bs st) ix p)) := by unfold decE; rw [if_neg hz]
      have hds := dec_succ (Bs st) ix p
      rw [hd] at hds
      generalize hde : digI (Bs st) ix p = e at *
      have em : ∀ {Γ : List (Option Dat)}, Γ[4]? = some (some (.int e)) → EvX Wd0 K _ Γ (.int (e - 1)) := fun {Γ} h => v_sub (v_var (i := 4) (d := .int e) h) v_int
      refine g_app (P := (· = rowD (decRule p e))) (v_var (i := 2) rfl) (EvX.to (v_tupx (a_consx (v_fdiv (v_var (i := 3) (d := .int (p : Int)) rfl) v_int ⟨by omega, by omega⟩) (a_consx (v_mod (v_var (i := 3) (d := .int (p : Int)) rfl) v_int (by decide)) (a_consx (v_mod (v_fdiv (em rfl) v_int ⟨by omega, by omega⟩) v_int (by decide)) (a_consx (v_sub (v_mod (em rfl) v_int (by decide)) v_int) (a_consx (v_fdiv (em rfl) v_int ⟨by omega, by omega⟩) a_nil))))) (by simp)) ?_) S (by rw [List.length_map]; omega) fun d G H ed S => ?_
      · show _ = Dat.tup [.int (qOf p), .int (sOf p), .int ((e - 1) / 3 % 2), .int ((e - 1) % 3 - 1), .int ((e - 1) / 6)]
        rw [show qOf p = (p : Int) / 2 by unfold qOf; omega, show sOf p = (p : Int) % 2 by unfold sOf; omega]
      subst ed
      refine ⟨_, _, _, ⟨?_, some (.int (p : Int)), some (.int e), rfl⟩, S⟩
      rw [hds, List.map_append]
      rfl
  · rintro Γ O σ G H ⟨rfl, z1, z2, rfl⟩ S
    have e0 : ((2 * st : Nat) : Int).toNat = 2 * st := by omega
    rw [e0] at S
    obtain ⟨G, S⟩ := S4.keep (i := 2) rfl S
    exact g_ret (P := (· = .lst ((decR (Bs st) ix (2 * st)).map rowD))) (v_var (i := 2) rfl) S q
end
end K89

set_option maxHeartbeats 4000000
namespace K89
open PySem L2 Ly Tu KT
/-! ## what becomes of a machine's run, and the sums -/
inductive Cl where
  | ends (n m : Nat)
  | loops
  | opn
abbrev rwsA (st : Nat) (ix : Int) : List (List Int) := decR (Bs st) ix (2 * st)
abbrev wk (st : Nat) (ix : Int) : Knd := .tu (st : Int) 2 (rwsA st ix)
abbrev c0 : Dat := cfD 0 [] 0 []
def CFact (K : PySem.W.Frag) (CT CR CB : Addr) (st lim : Nat) (ix : Int) (c : Cl) : Prop := ∀ M : Mc K (LS CT CR K), IsO CT CR (wk st ix) M.D → M.R = (wk st ix).R → M.ok = (wk st ix).ok → match c with
  | .ends n m => X_judge CT CR CB K [M.D, c0, .int (lim : Int)] (.val (· = .tup [.str "ends", .int (n : Int)])) ∧ ∃ (q s : Int) (l r : List Int), l.length ≤ 9000 ∧ r.length ≤ 9000 ∧ ones (l ++ [s] ++ r) = m ∧ X_run K (LS CT CR K) CB F_after [M.D, c0, .int (n : Int)] (.val (· = cfD q l s r))
  | .loops => ∃ p, X_judge CT CR CB K [M.D, c0, .int (lim : Int)] (.val (· = .tup [.str "loops", p]))
  | .opn => X_judge CT CR CB K [M.D, c0, .int (lim : Int)] (.val (· = .tup [.str "open"]))
def Ad : Sig := fun ds P => ∃ (W : Knd) (d : Dat), ds = [.obj (0 : Addr) [], d] ∧ P = W.R d
abbrev Ld (K : PySem.W.Frag) : ClsL := [((0 : Addr), spOf Wd0 K Ad)]
def LFact (K : PySem.W.Frag) (st lim : Nat) (ix : Int) (c : Cl) : Prop := ∃ run : List Dat, A_orun K (Ld K) [.int 0, .lst ((rwsA st ix).map rowD), c0, .int ((lim + 1 : Nat) : Int)] (· = .lst run) ∧ run.length ≤ 100 ∧ match c with
  | .ends n m => run.length = n + 1 ∧ n ≤ lim ∧ ∃ (q s : Int) (l r : List Int), l.length ≤ 9000 ∧ r.length ≤ 9000 ∧ ones (l ++ [s] ++ r) = m ∧ run[run.length - 1]? = some (cfD q l s r)
  | .loops => run.length = lim + 2 ∧ ∃ p, A_sought [.int 0, .lst ((rwsA st ix).map rowD), .lst (run.take (lim + 1)), .int (lim : Int)] (· = p) ∧ isN p = false
  | .opn => run.length = lim + 2 ∧ ∃ p, A_sought [.int 0, .lst ((rwsA st ix).map rowD), .lst (run.take (lim + 1)), .int (lim : Int)] (· = p) ∧ isN p = true
theorem mcd_ex {K : PySem.W.Frag} {W : Knd} (v : W.valid) : ∃ M : Mc K (Ld K), M.R = W.R ∧ M.ok = W.ok :=
  ⟨{ C := (0 : Addr), fsd := [], A := Ad, R := W.R, ok := W.ok, mem := List.mem_singleton.mpr rfl, look := rfl, one := Knd.one, tot := fun _ h => Knd.tot h, stp := fun {n d} _ _ => ⟨W, d, rfl, rfl⟩, nxt := fun _ h1 h2 => (Knd.nxt v h1 h2).imp id fun z => ⟨z.1, fun _ => z.2⟩ }, rfl, rfl⟩
theorem Full.to {K K2 : PySem.W.Frag} {L : ClsL} {L2 : ClsL} {M : Mc K L} {M2 : Mc K2 L2} {d x : Dat} {k : Nat} {rows : List Dat} (hR : M.R = M2.R) (hok : M.ok = M2.ok) (h : Full M d k rows x) : Full M2 d k rows x := by
  refine ⟨h.zero, fun i y e => ?_, fun i y z e1 e2 => ?_, h.len, h.last, fun e => ?_⟩
  · rw [← hok]; exact h.ok i y e
  · rw [← hR]; exact h.nx i y z e1 e2
  · rw [← hR]; exact h.fin e
theorem valid_dec {st : Nat} {ix : Int} (h1 : 1 ≤ st) (h2 : st ≤ 3) : (wk st ix).valid := ⟨⟨by omega, by omega⟩, ⟨by omega, by omega⟩, dec_good h1, dec_nd _ _ _, by have := dec_len (Bs st) ix (2 * st); show (decR (Bs st) ix (2 * st)).length < 64; omega, dec_sorted h1 (by omega) _ (Nat.le_refl _)⟩
theorem bothU {K K2 : PySem.W.Frag} {CT CR : Addr} {L : ClsL} {st sy : Int} {rws : List (List Int)} {Md : Mc K2 L} {d x : Dat} {k : Nat} {rows : List Dat} (hv : (Knd.tu st sy rws).valid) (hR : Md.R = (Knd.tu st sy rws).R) (hok : Md.ok = (Knd.tu st sy rws).ok) (hk : k ≤ 15) (hF : Full Md d k rows x) :
    ∃ p : Dat, (∀ M : Mc K (LS CT CR K), IsO CT CR (.tu st sy rws) M.D → A_found CT CR [M.D, .lst rows] (· = p)) ∧ A_sought [.int 0, .lst (rws.map rowD), .lst rows, .int (k : Int)] (· = p) := by
  obtain ⟨cs, rfl, hT⟩ := hF.tu hv hR hok hk
  obtain ⟨o, hO⟩ := Fst.ex (shP rws cs) cs.length
  have hl := hF.len
  rw [List.length_map] at hl
  refine ⟨papD "shift" (sameAt cs) o, fun M ⟨fsd, eo, hG⟩ => .inl ⟨st, sy, rws, fsd, cs, o, hT, hG, hO, by rw [eo], rfl⟩, 0, .lst (rws.map rowD), cs.map tD, rtT rws cs, k, "shift", shP rws cs, sameAt cs, o, .tu hv hT, by rw [List.length_map]; exact hT.pos, by rw [List.length_map]; exact hl, by omega, fun i j => ?_, fun w i j hij hj hr => ?_, fun i j hb => ?_, by rw [List.length_map]; exact hO, rfl, rfl⟩
  · unfold rtT
    rw [if_pos rfl]
  · rw [List.length_map] at hj
    unfold rtT at hr
    split at hr
    · rename_i ew
      refine ⟨.inl ew, ?_⟩
      obtain ⟨a, ha⟩ : ∃ a, cs[i]? = some a := ⟨_, List.getElem?_eq_getElem (by omega)⟩
      unfold sameAt at hr
      have hr := of_decide_eq_true hr
      rw [ha] at hr
      unfold shP
      rw [← hr, ha]
      exact shB_same _ _ _ _
    · split at hr
      · rename_i ew
        exact ⟨.inr ew, hr⟩
      · cases hr
  · refine ⟨"shift", by simp [words], ?_⟩
    unfold rtT
    rw [if_neg (by decide), if_pos rfl]
    exact hb
theorem cl_ex {K : PySem.W.Frag} {CT CR CB : Addr} {st lim : Nat} {ix : Int} (h1 : 1 ≤ st) (h2 : st ≤ 3) (hl : lim ≤ 14) : ∃ c, CFact K CT CR CB st lim ix c ∧ LFact K st lim ix c := by
  have hv : (wk st ix).valid := valid_dec h1 h2
  obtain ⟨Md, hR, hok⟩ := mcd_ex (K := K) hv
  have h0 : Md.ok 0 c0 := by
    rw [hok]
    exact ⟨0, [], 0, [], rfl, ⟨by omega, by omega⟩, ⟨by omega, by omega⟩, (fun _ h => nomatch h), (fun _ h => nomatch h), ends_iff.mpr (by simp), ends_iff.mpr (by simp), by simp, by simp⟩
  obtain ⟨rows, x, hF⟩ := Full.ex (k := lim + 1) (by omega) h0
  have hlen := hF.len
  have hpos := hF.pos
  have hrun : A_orun K (Ld K) [.int 0, .lst ((rwsA st ix).map rowD), c0, .int ((lim + 1 : Nat) : Int)] (· = .lst rows) := ⟨wk st ix, Md, c0, lim + 1, rows, x, hv, hR, hok, by omega, hF, rfl, rfl⟩
  by_cases hend : rows.length ≤ lim + 1
  · have hx := hF.ok _ _ hF.last
    rw [hok] at hx
    obtain ⟨q, l, s, r, ex, hc⟩ := hx
    have l1 := hc.ln
    have l2 := hc.rn
    refine ⟨.ends (rows.length - 1) (ones (l ++ [s] ++ r)), fun M hO hR2 hok2 => ?_, rows, hrun, by omega, by omega, by omega, q, s, l, r, by omega, by omega, rfl, by rw [hF.last, ex]⟩
    have hF2 : Full M c0 (lim + 1) rows x := hF.to (hR.trans hR2.symm) (hok.trans hok2.symm)
    refine ⟨⟨M, c0, (lim : Int), rfl, .inr ⟨lim, rows, x, rfl, hl, ⟨hF2.zero, hF2.ok, hF2.nx, by omega, hF2.last, fun _ => hF2.fin (by omega)⟩, .inl ⟨hF2.fin (by omega), rfl⟩⟩⟩, q, s, l, r, by omega, by omega, rfl, ?_⟩
    obtain ⟨h, hh⟩ : ∃ h : Bool, h = true ↔ M.R x .non := by
      by_cases z : M.R x .non
      · exact ⟨true, fun _ => z, fun _ => rfl⟩
      · exact ⟨false, (fun e => nomatch e), fun e => absurd e z⟩
    exact ⟨M, c0, _, rfl, .inr ⟨rows.length - 1, rows, x, h, rfl, by omega, ⟨hF2.zero, hF2.ok, hF2.nx, by omega, hF2.last, fun e => absurd e (by omega)⟩, hh, by rw [← ex]; rfl⟩⟩
  · have hl2 : rows.length = lim + 2 := by omega
    obtain ⟨y, hy⟩ : ∃ y, rows[lim]? = some y := ⟨_, List.getElem?_eq_getElem (by omega)⟩
    obtain ⟨e, he⟩ : ∃ e, rows[lim + 1]? = some e := ⟨_, List.getElem?_eq_getElem (by omega)⟩
    obtain ⟨hRe, hne⟩ := hF.nx lim y e hy he
    have htl : (rows.take (lim + 1)).length = lim + 1 := by rw [List.length_take]; omega
    have hF2 : Full Md c0 lim (rows.take (lim + 1)) y := by
      refine ⟨?_, fun i y hy => ?_, fun i y z hy hz => ?_, by omega, ?_, fun h => absurd h (by omega)⟩
      · rw [List.getElem?_take, if_pos (by omega)]
        exact hF.zero
      · rw [List.getElem?_take] at hy
        split at hy
        · exact hF.ok i y hy
        · cases hy
      · rw [List.getElem?_take] at hy hz
        split at hy
        · split at hz
          · exact hF.nx i y z hy hz
          · cases hz
        · cases hy
      · rw [htl, List.getElem?_take, if_pos (by omega)]
        exact hy
    obtain ⟨p, hA1, hA2⟩ := bothU (K := K) (CT := CT) (CR := CR) hv hR hok (by omega) hF2
    have hj : ∀ M : Mc K (LS CT CR K), IsO CT CR (wk st ix) M.D → M.R = (wk st ix).R → M.ok = (wk st ix).ok → X_judge CT CR CB K [M.D, c0, .int (lim : Int)] (.val (· = judD p)) := fun M hO hR2 hok2 =>
      ⟨M, c0, (lim : Int), rfl, .inr ⟨lim, rows.take (lim + 1), y, rfl, hl, hF2.to (hR.trans hR2.symm) (hok.trans hok2.symm), .inr ⟨e, p, htl, by rw [hR2, ← hR]; exact hRe, hne, hA1 M hO, rfl⟩⟩⟩
    cases hp : isN p with
    | false =>
      refine ⟨.loops, fun M hO hR2 hok2 => ⟨p, ?_⟩, rows, hrun, by omega, hl2, p, hA2, hp⟩
      have ej : judD p = .tup [.str "loops", p] := by
        unfold judD
        rw [if_neg (by rw [hp]; decide)]
      rw [← ej]
      exact hj M hO hR2 hok2
    | true =>
      refine ⟨.opn, fun M hO hR2 hok2 => ?_, rows, hrun, by omega, hl2, p, hA2, hp⟩
      have ej : judD p = .tup [.str "open"] := by
        unfold judD
        rw [if_pos hp]
      rw [← ej]
      exact hj M hO hR2 hok2
structure Tot where
  e : Nat
  l : Nat
  o : Nat
  sts : Option (Int × Int)
  mks : Option (Int × Int)
def acc (a : Int) (cl : Nat → Cl) : Nat → Tot
  | 0 => ⟨0, 0, 0, none, none⟩
  | n + 1 => match cl n with
    | .ends k m => ⟨(acc a cl n).e + 1, (acc a cl n).l, (acc a cl n).o, grO (acc a cl n).sts (k : Int) (a + (n : Int)), grO (acc a cl n).mks (m : Int) (a + (n : Int))⟩
    | .loops => ⟨(acc a cl n).e, (acc a cl n).l + 1, (acc a cl n).o, (acc a cl n).sts, (acc a cl n).mks⟩
    | .opn => ⟨(acc a cl n).e, (acc a cl n).l, (acc a cl n).o + 1, (acc a cl n).sts, (acc a cl n).mks⟩
def totD (A : Tot) : Dat := .tup [.int (A.e : Int), .int (A.l : Int), .int (A.o : Int), optP A.sts, optP A.mks]
abbrev kvA (e l o : Int) : List (Key × V) := [(Sum.inr "ends", .int e), (Sum.inr "loops", .int l), (Sum.inr "open", .int o)]
theorem kv_e (e l o v : Int) : putK (kvA e l o) (Sum.inr "ends" : Key) (.int v) = kvA v l o := by
  unfold putK
  rfl
theorem kv_l (e l o v : Int) : putK (kvA e l o) (Sum.inr "loops" : Key) (.int v) = kvA e v o := by
  unfold putK
  rfl
theorem kv_o (e l o v : Int) : putK (kvA e l o) (Sum.inr "open" : Key) (.int v) = kvA e l v := by
  unfold putK
  rfl
theorem kv_ge (e l o : Int) : valV (kvA e l o) (Sum.inr "ends" : Key) = some (.int e) := rfl
theorem kv_gl (e l o : Int) : valV (kvA e l o) (Sum.inr "loops" : Key) = some (.int l) := rfl
theorem kv_go (e l o : Int) : valV (kvA e l o) (Sum.inr "open" : Key) = some (.int o) := rfl
end K89

set_option maxHeartbeats 4000000
namespace K89
open PySem L2 Ly Tu KT
/-! ## census -/
def BadC (st a b lim : Int) : Prop := ¬ InIx st a ∨ (InIx st a ∧ ¬ InIx st b) ∨ (InIx st a ∧ InIx st b ∧ (a > b ∨ b - a ≥ 2000)) ∨ (InIx st a ∧ InIx st b ∧ st ≤ 2 ∧ a ≤ b ∧ b - a < 2000 ∧ ¬ (0 ≤ lim ∧ lim ≤ 300))
def X_cen (CT CR CB : Addr) (K : PySem.W.Frag) : XSig := fun ds o => ∃ st a b lim : Int, ds = [.int st, .int a, .int b, .int lim] ∧
  ((o = .err CB none ∧ BadC st a b lim) ∨ ∃ (s l : Nat) (cl : Nat → Cl), st = (s : Int) ∧ lim = (l : Int) ∧ s ≤ 2 ∧ l ≤ 14 ∧ InIx st a ∧ InIx st b ∧ a ≤ b ∧ b - a < 2000 ∧ (∀ n : Nat, a + (n : Int) ≤ b → CFact K CT CR CB s l (a + (n : Int)) (cl n)) ∧ o = .val (· = totD (acc a cl (b - a + 1).toNat)))
theorem many_1 : manyI 1 = 49 := by decide
theorem many_2 : manyI 2 = 28561 := by decide
theorem acc_e {a : Int} {cl : Nat → Cl} {n k m : Nat} (h : cl n = .ends k m) : acc a cl (n + 1) = ⟨(acc a cl n).e + 1, (acc a cl n).l, (acc a cl n).o, grO (acc a cl n).sts (k : Int) (a + (n : Int)), grO (acc a cl n).mks (m : Int) (a + (n : Int))⟩ := by
  conv => lhs; unfold acc
  rw [h]
theorem acc_l {a : Int} {cl : Nat → Cl} {n : Nat} (h : cl n = .loops) : acc a cl (n + 1) = ⟨(acc a cl n).e, (acc a cl n).l + 1, (acc a cl n).o, (acc a cl n).sts, (acc a cl n).mks⟩ := by
  conv => lhs; unfold acc
  rw [h]
theorem acc_o {a : Int} {cl : Nat → Cl} {n : Nat} (h : cl n = .opn) : acc a cl (n + 1) = ⟨(acc a cl n).e, (acc a cl n).l, (acc a cl n).o + 1, (acc a cl n).sts, (acc a cl n).mks⟩ := by
  conv => lhs; unfold acc
  rw [h]
theorem pls_ints (ns : List Int) : Pls 1 (dI ns) := by
  induction ns with
  | nil => simp [Pls]
  | cons n ns ih =>
    show Pls 1 (Dat.int n :: dI ns)
    rw [Pls, Pl]
    exact ⟨trivial, ih⟩
section
variable {P : Program} {w : World} {K : PySem.W.Frag} {mg : Str → Option Value} {base : Heap} {C_Turing C_Registers C_InvalidMachine C_BadArgument : Addr}
theorem ok_census (D : Df K mg "census" s_census) (T : Txt K w mg C_Turing C_Registers C_InvalidMachine C_BadArgument) (c_refuse_index : CalX P w K mg base 3 "_refuse_index" (spX Wd0 K (X_rindex C_BadArgument))) (c_start : C8.Cal P w K mg base 2 "start" (spOf Wd0 K A_start0) []) (c_machine_at : CalX P w K mg base 4 "machine_at" (spX Wd0 K (X_at C_Turing C_BadArgument))) (c_judge : CalX P w K mg base 6 "judge" (spX Wd0 K (X_judge C_Turing C_Registers C_BadArgument K)))
    (c_after : CalX P w K mg base 5 "after" (spX Wd0 K (X_run K (LS C_Turing C_Registers K) C_BadArgument F_after))) (c_content : C8.Cal P w K mg base 2 "content" (spCont K) []) (c_greater : C8.Cal P w K mg base 1 "_greater" (spOf Wd0 K A_gr) []) : CalX P w K mg base 7 "census" (spX Wd0 K (X_cen C_Turing C_Registers C_BadArgument K)) := by
  refine calx_of D (fun _ _ _ _ _ _ us hl => match us, hl with | [_, _, _, _], _ => rfl) sc_census (spX_len (n := 4) fun _ _ ⟨_, _, _, _, e, _⟩ => by rw [e]; rfl) fun f cdv A outer s H0 vs Q E hr h => ⟨_, (pss_cons (ps_expr (pe_cXP c_refuse_index hr (by decide) (L2N.takes_of rfl rfl rfl rfl) rfl (pa_cons (pv 0) (pa_cons (pv 1) pa_nil))))
      (pss_cons (ps_expr (pe_cXP c_refuse_index hr (by decide) (L2N.takes_of rfl rfl rfl rfl) rfl (pa_cons (pv 0) (pa_cons (pv 2) pa_nil))))
      (pss_cons (ps_if (PW.pt (pw_or (pt_cmpR op_gt (pv 1) (pv 2) (nomark _)) (pw_or1 (pt_cmpR op_ge (pe_op op_sub (pv 2) (pv 1)) (C8.pe_gc (v := .int 2000) rfl T.m_MOST_MACHINES) (nomark _))))) (pss_one (ps_raiseEN rfl (L2N.takes_of rfl rfl rfl rfl) T.e_BadArgument rfl)) pss_nil)
      (pss_cons (ps_set (i := 4) sc_census.nd rfl (by first | exact Or.inl rfl | exact Or.inr rfl) (pe_disp (pps_cons pe_str pe_int (pps_cons pe_str pe_int (pps_cons pe_str pe_int pps_nil))) (by rfl) (by rfl) (fun z => by cases z) (by decide)))
      (pss_cons (ps_set (i := 5) sc_census.nd rfl (by first | exact Or.inl rfl | exact Or.inr rfl) pe_non)
      (pss_cons (ps_set (i := 6) sc_census.nd rfl (by first | exact Or.inl rfl | exact Or.inr rfl) pe_non)
      (pss_cons (ps_set (i := 7) sc_census.nd rfl (by first | exact Or.inl rfl | exact Or.inr rfl) (C8.pe_c c_start hr (by decide) rfl (pa_cons (pe_tup pa_nil) pa_nil)))
      (pss_cons (ps_for (passes_of rfl) rfl (pi_range2 rfl T.n_range (pa_cons (pv 1) (pa_cons (pe_op op_add (pv 2) pe_int) pa_nil))) (pg_name (i := 8) sc_census.nd rfl (by first | exact Or.inl rfl | exact Or.inr rfl))
        (pss_cons (ps_set (i := 9) sc_census.nd rfl (by first | exact Or.inl rfl | exact Or.inr rfl) (pe_cXP c_machine_at hr (by decide) (L2N.takes_of rfl rfl rfl rfl) rfl (pa_cons (pv 0) (pa_cons (pv 8) pa_nil))))
      (pss_cons (ps_asg (pe_cXP c_judge hr (by decide) (L2N.takes_of rfl rfl rfl rfl) rfl (pa_cons (pv 9) (pa_cons (pv 7) (pa_cons (pv 3) pa_nil)))) (pg_tupS (i := 1) (n := 2) rfl (pgs_cons (pg_name (i := 10) sc_census.nd rfl (by first | exact Or.inl rfl | exact Or.inr rfl)) (pgs_consS (pg_name (i := 11) sc_census.nd rfl (by first | exact Or.inl rfl | exact Or.inr rfl)) pgs_nil))))
      (pss_cons (ps_daug (units1 hr) (pv 4) (pv 10) pe_int in_add (fun _ _ _ => rfl))
      (pss_one (ps_if (pt_cmpR op_eq (pv 10) pe_str (nomark _)) (pss_cons (ps_set (i := 12) sc_census.nd rfl (by first | exact Or.inl rfl | exact Or.inr rfl) (pe_tm (r := rCntT K) PySem.F.slot_tuple_count PySem.F.type_tuple_count (mt_countT (units80 hr)) (C8.pe_c c_content hr (by decide) rfl (pa_cons (pe_cXP c_after hr (by decide) (L2N.takes_of rfl rfl rfl rfl) rfl (pa_cons (pv 9) (pa_cons (pv 7) (pa_cons (pe_ix (r := rIxL K) ix_list (pv 11) pe_int (fun _ _ => rfl)) pa_nil)))) pa_nil)) (pa_cons (C8.pe_gc (v := .int 1) rfl T.m_MARK) pa_nil)))
      (pss_cons (ps_set (i := 5) sc_census.nd rfl (by first | exact Or.inl rfl | exact Or.inr rfl) (C8.pe_c c_greater hr (by decide) rfl (pa_cons (pv 5) (pa_cons (pe_ix (r := rIxL K) ix_list (pv 11) pe_int (fun _ _ => rfl)) (pa_cons (pv 8) pa_nil)))))
      (pss_one (ps_set (i := 6) sc_census.nd rfl (by first | exact Or.inl rfl | exact Or.inr rfl) (C8.pe_c c_greater hr (by decide) rfl (pa_cons (pv 6) (pa_cons (pv 12) (pa_cons (pv 8) pa_nil)))))))) pss_nil))))))
      (pss_one (ps_ret (pe_tup (pa_cons (pe_dget (units1 hr) (pv 4) pe_str (fun _ _ => rfl)) (pa_cons (pe_dget (units1 hr) (pv 4) pe_str (fun _ _ => rfl)) (pa_cons (pe_dget (units1 hr) (pv 4) pe_str (fun _ _ => rfl)) (pa_cons (pv 5) (pa_cons (pv 6) pa_nil)))))))))))))))), ?_⟩
  obtain ⟨G0, ds, o, kk, r, ⟨st, a, b, lim, rfl, hc⟩, q⟩ := h
  have S := S4.start (N := N_census) kk r
  by_cases hia : InIx st a
  rotate_left
  · have eo : o = .err C_BadArgument none := by
      rcases hc with ⟨e, _⟩ | ⟨_, _, _, _, _, _, _, h, _⟩
      · exact e
      · exact absurd h hia
    subst eo
    refine q_dropP (o := .err C_BadArgument none) (a_consx (v_var (i := 0) (d := .int st) rfl) (a_consx (v_var (i := 1) (d := .int a) rfl) a_nil)) ⟨st, a, rfl, (if_neg hia).symm⟩ S (fun _ e => nomatch e) (fun C fs e d G H S h1 h2 => ?_)
    cases e
    exact q d G H S.stp h1 h2
  refine q_dropP (o := .val (· = .non)) (a_consx (v_var (i := 0) (d := .int st) rfl) (a_consx (v_var (i := 1) (d := .int a) rfl) a_nil)) ⟨st, a, rfl, (if_pos hia).symm⟩ S (fun _ _ G H S => ?_) (fun _ _ e => nomatch e)
  by_cases hib : InIx st b
  rotate_left
  · have eo : o = .err C_BadArgument none := by
      rcases hc with ⟨e, _⟩ | ⟨_, _, _, _, _, _, _, _, h, _⟩
      · exact e
      · exact absurd h hib
    subst eo
    refine q_dropP (o := .err C_BadArgument none) (a_consx (v_var (i := 0) (d := .int st) rfl) (a_consx (v_var (i := 2) (d := .int b) rfl) a_nil)) ⟨st, b, rfl, (if_neg hib).symm⟩ S (fun _ e => nomatch e) (fun C fs e d G H S h1 h2 => ?_)
    cases e
    exact q d G H S.stp h1 h2
  refine q_dropP (o := .val (· = .non)) (a_consx (v_var (i := 0) (d := .int st) rfl) (a_consx (v_var (i := 2) (d := .int b) rfl) a_nil)) ⟨st, b, rfl, (if_pos hib).symm⟩ S (fun _ _ G H S => ?_) (fun _ _ e => nomatch e)
  refine q_when (P := (· = (decide (a > b) || decide (b - a ≥ 2000)))) (b_orx (b_testx (v_gt (v_var (i := 1) (d := .int a) rfl) (v_var (i := 2) (d := .int b) rfl))) fun _ => b_testx (v_ge (v_sub (v_var (i := 2) (d := .int b) rfl) (v_var (i := 1) (d := .int a) rfl)) v_int)) S (fun e G H S => ?_) fun e G H S => ?_
  · have eo : o = .err C_BadArgument none := by
      rcases hc with ⟨e, _⟩ | ⟨_, _, _, _, _, _, _, _, _, h1, h2, _⟩
      · exact e
      · rcases Bool.or_eq_true_iff.mp e.symm with h | h
        · have := of_decide_eq_true h
          omega
        · have := of_decide_eq_true h
          omega
    subst eo
    exact out_raise q S
  have hab : a ≤ b ∧ b - a < 2000 := by
    have := Bool.or_eq_false_iff.mp e.symm
    have h1 := of_decide_eq_false this.1
    have h2 := of_decide_eq_false this.2
    omega
  have hs2 : st ≤ 2 := by
    rcases hc with ⟨_, h | ⟨_, h⟩ | ⟨_, _, h⟩ | ⟨_, _, h, _⟩⟩ | ⟨s, _, _, e, _, h, _⟩
    · exact absurd hia h
    · exact absurd hib h
    · omega
    · exact h
    · omega
  obtain ⟨s, rfl⟩ := Int.eq_ofNat_of_zero_le (a := st) (by have := hia.1; omega)
  have hs1 : 1 ≤ s := by have := hia.1; omega
  have hs2 : s ≤ 2 := by omega
  have hmb : b < 30000 := by
    have hb := hib.2.2
    have : s = 1 ∨ s = 2 := by omega
    rcases this with e | e
    · subst e
      rw [show ((1 : Nat) : Int) = 1 from rfl, many_1] at hb
      omega
    · subst e
      rw [show ((2 : Nat) : Int) = 2 from rfl, many_2] at hb
      omega
  have ha0 := hia.2.1
  refine q_newDisp (kvA 0 0 0) (by decide) S fun x σ H h0 S => ?_
  have S : S4 (WO x (.dK (kvA 0 0 0))) K _ _ _ _ _ _ _ _ := S
  refine q_setx (d := .non) v_non S fun σ G H S => ?_
  refine q_setx (d := .non) v_non S fun σ G H S => ?_
  refine q_setx (d := c0) (v_call0x (a_consx (v_tupx a_nil (by simp)) a_nil) ⟨rfl, rfl⟩) S fun σ G H S => ?_
  have hin : ∀ n : Nat, a + (n : Int) ≤ b → InIx (s : Int) (a + (n : Int)) := fun n hn => ⟨hia.1, by omega, by have := hib.2.2; omega⟩
  have hvd : ∀ n : Nat, (wk s (a + (n : Int))).valid := fun n => valid_dec hs1 (by omega)
  rcases hc with ⟨eo, hbad⟩ | ⟨s', l, cl, es, rfl, _, hl14, _, _, _, _, hF, rfl⟩
  · have hlim : ¬ (0 ≤ lim ∧ lim ≤ 300) := by
      rcases hbad with h | ⟨_, h⟩ | ⟨_, _, h⟩ | ⟨_, _, _, _, _, h⟩
      · exact absurd hia h
      · exact absurd hib h
      · omega
      · exact h
    subst eo
    refine q_for2O (lo := a) (hi := b + 1) (j := 8) (a_consx (v_var (i := 1) (d := .int a) rfl) (a_consx (v_add (v_var (i := 2) (d := .int b) rfl) v_int) a_nil)) (by omega) S (fun n o' Γ O => n = 0 ∧ O = [] ∧ ∃ z8, Γ = [some (.int (s : Int)), some (.int a), some (.int b), some (.int lim), some (.adr x), some .non, some .non, some c0, z8, none, none, none, none]) ⟨rfl, rfl, _, rfl⟩ ?_ ?_
    · rintro n o' Γ O σ G H hn ⟨hn0, rfl, z8, rfl⟩ S
      refine q_set (P := fun d => ∃ fsd, d = .obj C_Turing fsd ∧ TurG (s : Int) 2 (rwsA s (a + (n : Int))) fsd) (v_callXx (a_consx (v_var (i := 0) (d := .int (s : Int)) rfl) (a_consx (v_var (i := 8) (d := .int (a + (n : Int))) rfl) a_nil)) ⟨(s : Int), a + (n : Int), rfl, (if_pos (hin n (by omega))).symm⟩) S fun d σ G H ⟨fsd, ed, hG⟩ S => ?_
      subst ed
      obtain ⟨M, hMD, hR, hok⟩ := mc_ex (K := K) (CT := C_Turing) (CR := C_Registers) (hvd n) (o := .obj C_Turing fsd) ⟨fsd, rfl, hG⟩
      rw [← hMD] at S
      exact q_tupX1 (i := 10) (j := 11) (ot := .err C_BadArgument none) (a_consx (v_var (i := 9) (d := M.D) rfl) (a_consx (v_var (i := 7) (d := c0) rfl) (a_consx (v_var (i := 3) (d := .int lim) rfl) a_nil))) ⟨M, c0, lim, rfl, .inl ⟨hlim, rfl⟩⟩ S (fun _ e => nomatch e) fun C fs e d G2 H2 S2 h1 h2 => by
        cases e
        exact q d G2 H2 (S4.leaveO h0 S2).stp h1 h2
    · rintro o' Γ O σ G H ⟨hn0, _⟩ S
      omega
  · have es : s = s' := by omega
    subst es
    refine q_for2O (lo := a) (hi := b + 1) (j := 8) (a_consx (v_var (i := 1) (d := .int a) rfl) (a_consx (v_add (v_var (i := 2) (d := .int b) rfl) v_int) a_nil)) (by omega) S (fun n o' Γ O => o' = .dK (kvA ((acc a cl n).e : Int) ((acc a cl n).l : Int) ((acc a cl n).o : Int)) ∧ O = [] ∧ ∃ z8 z9 z10 z11 z12, Γ = [some (.int (s : Int)), some (.int a), some (.int b), some (.int (l : Int)), some (.adr x), some (optP (acc a cl n).sts), some (optP (acc a cl n).mks), some c0, z8, z9, z10, z11, z12]) ⟨rfl, rfl, _, _, _, _, _, rfl⟩ ?_ ?_
    · rintro n o' Γ O σ G H hn ⟨rfl, rfl, z8, z9, z10, z11, z12, rfl⟩ S
      have hnb : a + (n : Int) ≤ b := by omega
      refine q_set (P := fun d => ∃ fsd, d = .obj C_Turing fsd ∧ TurG (s : Int) 2 (rwsA s (a + (n : Int))) fsd) (v_callXx (a_consx (v_var (i := 0) (d := .int (s : Int)) rfl) (a_consx (v_var (i := 8) (d := .int (a + (n : Int))) rfl) a_nil)) ⟨(s : Int), a + (n : Int), rfl, (if_pos (hin n hnb)).symm⟩) S fun d σ G H ⟨fsd, ed, hG⟩ S => ?_
      subst ed
      obtain ⟨M, hMD, hR, hok⟩ := mc_ex (K := K) (CT := C_Turing) (CR := C_Registers) (hvd n) (o := .obj C_Turing fsd) ⟨fsd, rfl, hG⟩
      have hCF := hF n hnb M (by rw [hMD]; exact ⟨fsd, rfl, hG⟩) hR hok
      rw [← hMD] at S
      have args : ∀ {Γ : List (Option Dat)} {W : Wd}, Γ[9]? = some (some M.D) → Γ[7]? = some (some c0) → Γ[3]? = some (some (.int (l : Int))) → EvAX W K (tCons (tVar 9) (tCons (tVar 7) (tCons (tVar 3) tNil))) Γ [M.D, c0, .int (l : Int)] := fun g9 g7 g3 => a_consx (v_var g9) (a_consx (v_var g7) (a_consx (v_var g3) a_nil))
      cases hcl : cl n with
      | ends k m =>
        rw [hcl] at hCF
        obtain ⟨hJ, qq, ss, ll, rr, hl1, hr1, hones, hrun⟩ := hCF
        refine q_tupX1 (i := 10) (j := 11) (ot := .val (· = .tup [.str "ends", .int (k : Int)])) (args rfl rfl rfl) hJ S (fun P eP => ⟨.str "ends", [.int (k : Int)], by cases eP; exact fun d e => e, by simp, fun σ G H S => ?_⟩) (fun _ _ e => nomatch e)
        refine q_daugO (k := "ends") (n := ((acc a cl n).e : Int)) (m := 1) rfl (v_var (i := 10) (d := .str "ends") rfl) v_int (kv_ge _ _ _) (by simp) S fun G H S => ?_
        rw [kv_e] at S
        refine g_if (P := (· = true)) (EvBX.to (b_testx (v_eqS (v_var (i := 10) (d := .str "ends") rfl) v_str)) (decide_eq_true rfl)) S (fun _ G H S => ?_) (fun e => nomatch e)
        have told : ∀ {Γ : List (Option Dat)} {W : Wd}, Γ[11]? = some (some (.lst [.int (k : Int)])) → EvX W K (tOp (rIxL K) (tVar 11) (tC (.int 0))) Γ (.int (k : Int)) := fun g => v_ixL (ds := [.int (k : Int)]) (j := 0) (v_var g) v_int rfl rfl
        refine q_setx (d := .int (m : Int)) (EvX.to (v_countF (n := 1) (m := 1) (v_content (q := qq) (s := ss) (l := ll) (r := rr) (a_consx (v_callXx (a_consx (v_var (i := 9) (d := M.D) rfl) (a_consx (v_var (i := 7) (d := c0) rfl) (a_consx (told rfl) a_nil))) hrun) a_nil) hl1 hr1) v_int (pls_ints _) (by rw [Pl]; trivial) (by omega)) (by rw [ones_eqv, cont_ones, hones])) S fun σ G H S => ?_
        refine q_setx (d := optP (grO (acc a cl n).sts (k : Int) (a + (n : Int)))) (v_call0x (a_consx (v_var (i := 5) (d := optP (acc a cl n).sts) rfl) (a_consx (told rfl) (a_consx (v_var (i := 8) (d := .int (a + (n : Int))) rfl) a_nil))) ⟨_, _, _, rfl, rfl⟩) S fun σ G H S => ?_
        refine g_setx (d := optP (grO (acc a cl n).mks (m : Int) (a + (n : Int)))) (v_call0x (a_consx (v_var (i := 6) (d := optP (acc a cl n).mks) rfl) (a_consx (v_var (i := 12) (d := .int (m : Int)) rfl) (a_consx (v_var (i := 8) (d := .int (a + (n : Int))) rfl) a_nil))) ⟨_, _, _, rfl, rfl⟩) S fun σ G H S => ?_
        exact ⟨_, _, _, _, ⟨by rw [acc_e hcl]; rfl, rfl, _, _, _, _, _, by rw [acc_e hcl]; rfl⟩, S⟩
      | loops =>
        rw [hcl] at hCF
        obtain ⟨p, hJ⟩ := hCF
        refine q_tupX1 (i := 10) (j := 11) (ot := .val (· = .tup [.str "loops", p])) (args rfl rfl rfl) hJ S (fun P eP => ⟨.str "loops", [p], by cases eP; exact fun d e => e, by simp, fun σ G H S => ?_⟩) (fun _ _ e => nomatch e)
        refine q_daugO (k := "loops") (n := ((acc a cl n).l : Int)) (m := 1) rfl (v_var (i := 10) (d := .str "loops") rfl) v_int (kv_gl _ _ _) (by simp) S fun G H S => ?_
        rw [kv_l] at S
        refine g_if (P := (· = false)) (EvBX.to (b_testx (v_eqS (v_var (i := 10) (d := .str "loops") rfl) v_str)) (decide_eq_false (by decide))) S (fun e => nomatch e) fun _ G H S => ?_
        exact ⟨_, _, _, _, ⟨by rw [acc_l hcl]; rfl, rfl, _, _, _, _, _, by rw [acc_l hcl]; rfl⟩, S⟩
      | opn =>
        rw [hcl] at hCF
        have hJ := hCF
        refine q_tupX1 (i := 10) (j := 11) (ot := .val (· = .tup [.str "open"])) (args rfl rfl rfl) hJ S (fun P eP => ⟨.str "open", [], by cases eP; exact fun d e => e, by simp, fun σ G H S => ?_⟩) (fun _ _ e => nomatch e)
        refine q_daugO (k := "open") (n := ((acc a cl n).o : Int)) (m := 1) rfl (v_var (i := 10) (d := .str "open") rfl) v_int (kv_go _ _ _) (by simp) S fun G H S => ?_
        rw [kv_o] at S
        refine g_if (P := (· = false)) (EvBX.to (b_testx (v_eqS (v_var (i := 10) (d := .str "open") rfl) v_str)) (decide_eq_false (by decide))) S (fun e => nomatch e) fun _ G H S => ?_
        exact ⟨_, _, _, _, ⟨by rw [acc_o hcl]; rfl, rfl, _, _, _, _, _, by rw [acc_o hcl]; rfl⟩, S⟩
    · rintro o' Γ O σ G H ⟨rfl, rfl, z8, z9, z10, z11, z12, rfl⟩ S
      rw [show (b + 1 - a).toNat = (b - a + 1).toNat by omega] at S
      refine g_ret (P := (· = totD (acc a cl (b - a + 1).toNat))) (v_tupx (a_consx (v_dgetO (k := "ends") rfl v_str (kv_ge _ _ _)) (a_consx (v_dgetO (k := "loops") rfl v_str (kv_gl _ _ _)) (a_consx (v_dgetO (k := "open") rfl v_str (kv_go _ _ _)) (a_consx (v_var (i := 5) rfl) (a_consx (v_var (i := 6) rfl) a_nil))))) (by simp)) S (go_leaveO h0 q)
end
end K89

set_option maxHeartbeats 4000000
namespace K89
open PySem L2 Ly Tu KT
def A_bad : Sig := fun ds P => ∃ st a b lim : Int, BadC st a b lim ∧ ds = [.int st, .int a, .int b, .int lim] ∧ P = (· = .bl true)
abbrev t4 (a b c d : Int) : Dat := .tup [.int a, .int b, .int c, .int d]
theorem pl_opt (o : Option (Int × Int)) : Pl 3 (optP o) := by
  cases o with
  | none => show Pl 3 .non; rw [Pl]; trivial
  | some p =>
    obtain ⟨a, b⟩ := p
    show Pl 3 (.tup [.int a, .int b])
    rw [Pl, Pls, Pls, Pls, Pl, Pl]
    exact ⟨by simp, trivial, trivial, trivial⟩
theorem pl_tot (A : Tot) : Pl 4 (totD A) := by
  unfold totD
  rw [Pl, Pls, Pls, Pls, Pls, Pls, Pls, Pl, Pl, Pl]
  exact ⟨by simp, trivial, trivial, trivial, pl_opt _, pl_opt _, trivial⟩
theorem bad_rows (g : Int) (hg : 0 ≤ g) (j : Nat) (hj : j < 8) : ∃ w x y z : Int, [t4 0 0 0 1, t4 (7 + g) 0 0 1, t4 1 3 2 1, t4 1 (-1 - g) 0 1, t4 1 0 (49 + g) 1, t4 2 0 2000 1, t4 1 0 0 (-1 - g), t4 1 0 0 (301 + g)][j]? = some (t4 w x y z) ∧ BadC w x y z := by
  have i1 : ∀ v : Int, 0 ≤ v → v < 49 → InIx 1 v := fun v h1 h2 => ⟨by omega, h1, by rw [many_1]; exact h2⟩
  have i2 : ∀ v : Int, 0 ≤ v → v < 28561 → InIx 2 v := fun v h1 h2 => ⟨by omega, h1, by rw [many_2]; exact h2⟩
  match j, hj with
  | 0, _ => exact ⟨_, _, _, _, rfl, .inl fun z => by have := z.1; omega⟩
  | 1, _ => exact ⟨_, _, _, _, rfl, .inl fun z => by have := z.1; omega⟩
  | 2, _ => exact ⟨_, _, _, _, rfl, .inr (.inr (.inl ⟨i1 _ (by omega) (by omega), i1 _ (by omega) (by omega), by omega⟩))⟩
  | 3, _ => exact ⟨_, _, _, _, rfl, .inl fun z => by have := z.2.1; omega⟩
  | 4, _ => exact ⟨_, _, _, _, rfl, .inr (.inl ⟨i1 _ (by omega) (by omega), fun z => by have := z.2.2; rw [many_1] at this; omega⟩)⟩
  | 5, _ => exact ⟨_, _, _, _, rfl, .inr (.inr (.inl ⟨i2 _ (by omega) (by omega), i2 _ (by omega) (by omega), by omega⟩))⟩
  | 6, _ => exact ⟨_, _, _, _, rfl, .inr (.inr (.inr ⟨i1 _ (by omega) (by omega), i1 _ (by omega) (by omega), by omega, by omega, by omega, by omega⟩))⟩
  | 7, _ => exact ⟨_, _, _, _, rfl, .inr (.inr (.inr ⟨i1 _ (by omega) (by omega), i1 _ (by omega) (by omega), by omega, by omega, by omega, by omega⟩))⟩
section
variable {P : Program} {w : World} {K : PySem.W.Frag} {mg : Str → Option Value} {base : Heap} {C_Turing C_Registers C_InvalidMachine C_BadArgument : Addr}
theorem ok_bad (D : Df K mg "_law_bad" s_law_bad) (T : Txt K w mg C_Turing C_Registers C_InvalidMachine C_BadArgument) (c_census : CalX P w K mg base 7 "census" (spX Wd0 K (X_cen C_Turing C_Registers C_BadArgument K))) : C8.Cal P w K mg base 8 "_law_bad" (spOf Wd0 K A_bad) [] := by
  refine cal_of D (fun _ _ _ _ _ _ us hl => match us, hl with | [_, _, _, _], _ => rfl) sc_law_bad (spOf_len (n := 4) fun _ _ ⟨_, _, _, _, _, e, _⟩ => by rw [e]; rfl) fun f cdv A outer s H0 vs Q E hr h => ⟨_, (pss_cons (L2N.ps_try_many (Wout := fun _ _ _ _ => False) rfl rfl takes0N
        (fun W pn xe tk _ => (pss_one (ps_expr (pe_cXS c_census hr (by decide) (fun σ => L2N.passAt tk σ) rfl (pa_cons (pv 0) (pa_cons (pv 1) (pa_cons (pv 2) (pa_cons (pv 3) pa_nil))))))))
        (L2N.HdsOk.cons ⟨rfl, by decide, Or.inl T.g_BadArgument⟩ (fun a oe cls d pn hz hf => (pss_one (ps_ret pe_bl))) L2N.HdsOk.nil))
      (pss_one (ps_ret pe_bl))), ?_⟩
  obtain ⟨G0, ds, P, k, r, ⟨st, a, b, lim, hb, rfl, rfl⟩, q⟩ := h
  have S := S4.start (N := N_law_bad) k r
  have fin : ∀ {Γ : List (Option Dat)} {σ : L2.St} {G H : Hp}, S4 Wd0 K G0 G0 H0 Γ [] σ G H → Q (.bl true) H := fun S => q (.bl true) _ _ _ S.stp rfl (.bl _)
  refine q_tryG2 ?_
  refine q_dropS (o := .err C_BadArgument none) (ds := [.int st, .int a, .int b, .int lim]) (a_consx (v_var (i := 0) (d := .int st) rfl) (a_consx (v_var (i := 1) (d := .int a) rfl) (a_consx (v_var (i := 2) (d := .int b) rfl) (a_consx (v_var (i := 3) (d := .int lim) rfl) a_nil)))) ⟨st, a, b, lim, rfl, .inl ⟨rfl, hb⟩⟩ S (fun _ e => nomatch e) (fun C fs e d G H S h1 h2 => ?_)
  cases e
  exact ⟨true, T.e_BadArgument.exm, fun _ a ha => fin S, fun h => nomatch h⟩
theorem ok_law {f : Addr} {fd : FuncData} (F : Fun K "law" "law" s_law f fd) (T : Txt K w mg C_Turing C_Registers C_InvalidMachine C_BadArgument) (c_law_cell : C8.Cal P w K mg base 1 "_law_cell" (spOf Wd0 K A_cellx) []) (c_law_draws : C8.Cal P w K mg base 1 "_law_draws" (spOf Wd0 K A_draws) []) (c_law_like : C8.Cal P w K mg base 5 "_law_like" (spOf Wd0 K (A_likeG 4)) [])
    (c_law_entries : C8.Cal P w K mg base 1 "_law_entries" (spOf Wd0 K A_entries) []) (c_law_own_run : C8.Cal P w K mg base 3 "_law_own_run" (spOf Wd0 K (A_orun K (Ld K))) []) (c_law_sought : C8.Cal P w K mg base 4 "_law_sought" (spOf Wd0 K A_sought) [])
    (c_census : CalX P w K mg base 7 "census" (spX Wd0 K (X_cen C_Turing C_Registers C_BadArgument K))) (c_law_bad : C8.Cal P w K mg base 8 "_law_bad" (spOf Wd0 K A_bad) []) : FnOk P w K mg base CX0 9 f fd ["script"] (spLaw K) := by
  refine F.ok sc_law (fun vs H Q E ⟨_, _, e, _⟩ => by rw [e]; rfl) fun cdv A outer s H0 vs Q E hr h => ⟨_, (pss_cons (ps_set (i := 1) sc_law.nd rfl (by first | exact Or.inl rfl | exact Or.inr rfl) (C8.pe_c c_law_draws hr (by decide) rfl (pa_cons (C8.pe_c c_law_cell hr (by decide) rfl (pa_cons (pv 0) (pa_cons pe_int pa_nil))) (pa_cons pe_int pa_nil))))
      (pss_cons (ps_set (i := 2) sc_law.nd rfl (by first | exact Or.inl rfl | exact Or.inr rfl) (pe_op op_add pe_int (pe_op op_mod (pe_ix (r := rIxL K) ix_list (pv 1) pe_int (fun _ _ => rfl)) pe_int)))
      (pss_cons (ps_set (i := 3) sc_law.nd rfl (by first | exact Or.inl rfl | exact Or.inr rfl) (pe_ix (r := rIxL K) ix_list (pe_lst (pa_cons pe_int (pa_cons pe_int pa_nil))) (pe_op op_sub (pv 2) pe_int) (fun _ _ => rfl)))
      (pss_cons (ps_set (i := 4) sc_law.nd rfl (by first | exact Or.inl rfl | exact Or.inr rfl) (pe_op op_mod (pe_ix (r := rIxL K) ix_list (pe_lst (pa_cons (pe_op op_mul (pe_ix (r := rIxL K) ix_list (pv 1) pe_int (fun _ _ => rfl)) pe_int) (pa_cons (pe_ix (r := rIxL K) ix_list (pv 1) pe_int (fun _ _ => rfl)) pa_nil))) (pe_op op_mod (pe_ix (r := rIxL K) ix_list (pv 1) pe_int (fun _ _ => rfl)) pe_int) (fun _ _ => rfl)) (pv 3)))
      (pss_cons (ps_set (i := 5) sc_law.nd rfl (by first | exact Or.inl rfl | exact Or.inr rfl) (pe_callB (call_min2 rfl) (by rfl) T.n_min (by decide +kernel) (pa_cons (pe_op op_sub (pv 3) pe_int) (pa_cons (pe_op op_add (pv 4) (pe_op op_mod (pe_ix (r := rIxL K) ix_list (pv 1) pe_int (fun _ _ => rfl)) pe_int)) pa_nil))))
      (pss_cons (ps_set (i := 6) sc_law.nd rfl (by first | exact Or.inl rfl | exact Or.inr rfl) (pe_op op_mod (pe_ix (r := rIxL K) ix_list (pv 1) pe_int (fun _ _ => rfl)) pe_int))
      (pss_cons (ps_set (i := 7) sc_law.nd rfl (by first | exact Or.inl rfl | exact Or.inr rfl) pe_int)
      (pss_cons (ps_set (i := 8) sc_law.nd rfl (by first | exact Or.inl rfl | exact Or.inr rfl) pe_int)
      (pss_cons (ps_set (i := 9) sc_law.nd rfl (by first | exact Or.inl rfl | exact Or.inr rfl) pe_int)
      (pss_cons (ps_set (i := 10) sc_law.nd rfl (by first | exact Or.inl rfl | exact Or.inr rfl) pe_non)
      (pss_cons (ps_set (i := 11) sc_law.nd rfl (by first | exact Or.inl rfl | exact Or.inr rfl) pe_non)
      (pss_cons (ps_for PassesOwn.never rfl (pi_range2 rfl T.n_range (pa_cons (pv 4) (pa_cons (pe_op op_add (pv 5) pe_int) pa_nil))) (pg_name (i := 12) sc_law.nd rfl (by first | exact Or.inl rfl | exact Or.inr rfl))
        (pss_cons (ps_set (i := 13) sc_law.nd rfl (by first | exact Or.inl rfl | exact Or.inr rfl) (C8.pe_c c_law_entries hr (by decide) rfl (pa_cons (pv 2) (pa_cons (pv 12) pa_nil))))
      (pss_cons (ps_set (i := 14) sc_law.nd rfl (by first | exact Or.inl rfl | exact Or.inr rfl) (C8.pe_c c_law_own_run hr (by decide) rfl (pa_cons pe_int (pa_cons (pv 13) (pa_cons (pe_tup (pa_cons pe_int (pa_cons (pe_tup pa_nil) (pa_cons pe_int (pa_cons (pe_tup pa_nil) pa_nil))))) (pa_cons (pe_op op_add (pv 6) pe_int) pa_nil))))))
      (pss_one (ps_if (pt_cmpR op_le (pe_callB (r := Ly.rLen K) call_len_seq (by rfl) T.n_len PySem.boot_len (pa_cons (pv 14) pa_nil)) (pe_op op_add (pv 6) pe_int) (nomark _)) (pss_cons (ps_set (i := 7) sc_law.nd rfl (by first | exact Or.inl rfl | exact Or.inr rfl) (pe_op op_add (pv 7) pe_int))
      (pss_cons (ps_set (i := 15) sc_law.nd rfl (by first | exact Or.inl rfl | exact Or.inr rfl) (pe_callB (r := Ly.rLen K) call_len_seq (by rfl) T.n_len PySem.boot_len (pa_cons (pe_lc (own := [("x", 19)]) (g := gName 19) rfl sc_law.nd (pi_tup (pe_op (r := rCatA K) op_catA (pe_op (r := rCatA K) op_catA (pe_ix (r := rIxT K) ix_tup (pe_ix (r := rIxL K) ix_list (pv 14) (pe_un un_neg pe_int) (fun _ _ => rfl)) pe_int (fun _ _ => rfl)) (pe_tup (pa_cons (pe_ix (r := rIxT K) ix_tup (pe_ix (r := rIxL K) ix_list (pv 14) (pe_un un_neg pe_int) (fun _ _ => rfl)) pe_int (fun _ _ => rfl)) pa_nil))) (pe_ix (r := rIxT K) ix_tup (pe_ix (r := rIxL K) ix_list (pv 14) (pe_un un_neg pe_int) (fun _ _ => rfl)) pe_int (fun _ _ => rfl)))) (blkOk_by (N := N_law) (sc := defScope s_law) (by decide +kernel)) (fun _ _ _ _ _ => pg_name (i := 19) sc_law.nd rfl (Or.inl rfl)) (fun _ _ _ _ _ => pts_one (pt_cmpR op_eq (pv 19) pe_int (nomark _))) (fun _ _ _ _ _ => (pv 19))) pa_nil)))
      (Evl.pss_cut (ps_if (PW.pt (pw_or (pt_cmp (pc_isN (pv 10))) (pw_or1 (pt_cmpR op_gt (pe_op op_sub (pe_callB (r := Ly.rLen K) call_len_seq (by rfl) T.n_len PySem.boot_len (pa_cons (pv 14) pa_nil)) pe_int) (pe_ix (r := rIxT K) ix_tup (pv 10) pe_int (fun _ _ => rfl)) (nomark _))))) (pss_one (ps_set (i := 10) sc_law.nd rfl (by first | exact Or.inl rfl | exact Or.inr rfl) (pe_tup (pa_cons (pe_op op_sub (pe_callB (r := Ly.rLen K) call_len_seq (by rfl) T.n_len PySem.boot_len (pa_cons (pv 14) pa_nil)) pe_int) (pa_cons (pv 12) pa_nil))))) pss_nil)
      (pss_one (ps_if (PW.pt (pw_or (pt_cmp (pc_isN (pv 11))) (pw_or1 (pt_cmpR op_gt (pv 15) (pe_ix (r := rIxT K) ix_tup (pv 11) pe_int (fun _ _ => rfl)) (nomark _))))) (pss_one (ps_set (i := 11) sc_law.nd rfl (by first | exact Or.inl rfl | exact Or.inr rfl) (pe_tup (pa_cons (pv 15) (pa_cons (pv 12) pa_nil))))) pss_nil))))) (pss_one (ps_if (pt_cmp (pc_notN (C8.pe_c c_law_sought hr (by decide) rfl (pa_cons pe_int (pa_cons (pv 13) (pa_cons (pe_slice (r := rSlL K) sl_list (pv 14) po_none (po_some (pe_op op_add (pv 6) pe_int))) (pa_cons (pv 6) pa_nil))))))) (pss_one (ps_set (i := 8) sc_law.nd rfl (by first | exact Or.inl rfl | exact Or.inr rfl) (pe_op op_add (pv 8) pe_int))) (pss_one (ps_set (i := 9) sc_law.nd rfl (by first | exact Or.inl rfl | exact Or.inr rfl) (pe_op op_add (pv 9) pe_int))))))))))
      (pss_cons (ps_if (pt_not (pt_val (C8.pe_c c_law_like hr (by decide) rfl (pa_cons (pe_cX0 c_census hr (by decide) rfl (pa_cons (pv 2) (pa_cons (pv 4) (pa_cons (pv 5) (pa_cons (pv 6) pa_nil))))) (pa_cons (pe_tup (pa_cons (pv 7) (pa_cons (pv 8) (pa_cons (pv 9) (pa_cons (pv 10) (pa_cons (pv 11) pa_nil)))))) pa_nil))))) (pss_one (ps_ret pe_bl)) pss_nil)
      (pss_cons (ps_set (i := 16) sc_law.nd rfl (by first | exact Or.inl rfl | exact Or.inr rfl) (pe_op op_mod (pe_callTy call_int1 (by rfl) T.n_int (by decide +kernel) (pa_cons (C8.pe_c c_law_cell hr (by decide) rfl (pa_cons (pv 0) (pa_cons pe_int pa_nil))) pa_nil)) (pe_op op_pow pe_int pe_int)))
      (pss_cons (ps_set (i := 17) sc_law.nd rfl (by first | exact Or.inl rfl | exact Or.inr rfl) (pe_lst (pa_cons (pe_tup (pa_cons pe_int (pa_cons pe_int (pa_cons pe_int (pa_cons pe_int pa_nil))))) (pa_cons (pe_tup (pa_cons (pe_op op_add pe_int (pv 16)) (pa_cons pe_int (pa_cons pe_int (pa_cons pe_int pa_nil))))) (pa_cons (pe_tup (pa_cons pe_int (pa_cons pe_int (pa_cons pe_int (pa_cons pe_int pa_nil))))) (pa_cons (pe_tup (pa_cons pe_int (pa_cons (pe_op op_sub (pe_un un_neg pe_int) (pv 16)) (pa_cons pe_int (pa_cons pe_int pa_nil))))) (pa_cons (pe_tup (pa_cons pe_int (pa_cons pe_int (pa_cons (pe_op op_add pe_int (pv 16)) (pa_cons pe_int pa_nil))))) (pa_cons (pe_tup (pa_cons pe_int (pa_cons pe_int (pa_cons pe_int (pa_cons pe_int pa_nil))))) (pa_cons (pe_tup (pa_cons pe_int (pa_cons pe_int (pa_cons pe_int (pa_cons (pe_op op_sub (pe_un un_neg pe_int) (pv 16)) pa_nil))))) (pa_cons (pe_tup (pa_cons pe_int (pa_cons pe_int (pa_cons pe_int (pa_cons (pe_op op_add pe_int (pv 16)) pa_nil))))) pa_nil))))))))))
      (pss_cons (ps_set (i := 18) sc_law.nd rfl (by first | exact Or.inl rfl | exact Or.inr rfl) (pe_ix (r := rIxL K) ix_list (pv 17) (pe_op op_mod (pe_ix (r := rIxL K) ix_list (pv 1) pe_int (fun _ _ => rfl)) pe_int) (fun _ _ => rfl)))
      (pss_one (ps_ret (C8.pe_c c_law_bad hr (by decide) rfl (pa_cons (pe_ix (r := rIxT K) ix_tup (pv 18) pe_int (fun _ _ => rfl)) (pa_cons (pe_ix (r := rIxT K) ix_tup (pv 18) pe_int (fun _ _ => rfl)) (pa_cons (pe_ix (r := rIxT K) ix_tup (pv 18) pe_int (fun _ _ => rfl)) (pa_cons (pe_ix (r := rIxT K) ix_tup (pv 18) pe_int (fun _ _ => rfl)) pa_nil))))))))))))))))))))))), ?_⟩
  obtain ⟨a, sc, e, hS, hl, q⟩ := h
  have S := law_start (N := N_law) e hS
  refine q_set (P := fun d => ∃ ns, d = .lst (dI ns) ∧ (ns.length : Int) = 8 ∧ InB 4096 ns) (v_call0x (a_consx (v_call0x (P := (· = .int (cellV sc 0))) (a_consx (v_var (i := 0) (d := .lst (dI sc)) rfl) (a_consx v_int a_nil)) ⟨sc, 0, hl, rfl, rfl⟩) (a_consx v_int a_nil)) ⟨cellV sc 0, 8, cellV_nn sc 0, by omega, by omega, rfl, rfl⟩) S fun d σ G H ⟨ns, ed, hnl, hns⟩ S => ?_
  subst ed
  obtain ⟨d0, hd0, hd00, hd01⟩ := drawn_at hns (i := 0) (by omega)
  obtain ⟨d1, hd1, hd10, hd11⟩ := drawn_at hns (i := 1) (by omega)
  obtain ⟨d2, hd2, hd20, hd21⟩ := drawn_at hns (i := 2) (by omega)
  obtain ⟨d3, hd3, hd30, hd31⟩ := drawn_at hns (i := 3) (by omega)
  obtain ⟨d4, hd4, hd40, hd41⟩ := drawn_at hns (i := 4) (by omega)
  obtain ⟨d5, hd5, hd50, hd51⟩ := drawn_at hns (i := 5) (by omega)
  have gi : ∀ {Γ : List (Option Dat)} {n : Nat} {x : Int}, Γ[1]? = some (some (.lst (dI ns))) → ns[n]? = some x → EvX Wd0 K (tOp (rIxL K) (tVar 1) (tC (.int (n : Int)))) Γ (.int x) := fun {Γ n x} h1 h2 => v_ixL (ds := dI ns) (j := n) (v_var h1) v_int rfl (by rw [List.getElem?_map, h2]; rfl)
  obtain ⟨st, hst, hs1, hs2⟩ : ∃ st : Nat, 1 + d0 % 2 = (st : Int) ∧ 1 ≤ st ∧ st ≤ 2 := ⟨(1 + d0 % 2).toNat, by omega, by omega, by omega⟩
  refine q_setx (d := .int (st : Int)) (EvX.to (v_add v_int (v_mod (gi (n := 0) rfl hd0) v_int (by decide))) (by rw [hst])) S fun σ G H S => ?_
  obtain ⟨mn, hmn, hmany, hmn1, hmn2⟩ : ∃ mn : Int, [Dat.int 49, Dat.int 28561][st - 1]? = some (.int mn) ∧ manyI (st : Int) = mn ∧ 49 ≤ mn ∧ mn ≤ 28561 := by
    have : st = 1 ∨ st = 2 := by omega
    rcases this with e | e
    · subst e
      exact ⟨49, rfl, many_1, by omega, by omega⟩
    · subst e
      exact ⟨28561, rfl, many_2, by omega, by omega⟩
  refine q_setx (d := .int mn) (v_ixL (ds := [.int 49, .int 28561]) (j := st - 1) (v_lstx (a_consx v_int (a_consx v_int a_nil)) (by simp)) (v_sub (v_var (i := 2) (d := .int (st : Int)) rfl) v_int) (by omega) hmn) S fun σ G H S => ?_
  obtain ⟨y, hy⟩ : ∃ y : Int, [Dat.int (d1 * 7), Dat.int d1][(d2 % 2).toNat]? = some (.int y) := by
    have : (d2 % 2).toNat = 0 ∨ (d2 % 2).toNat = 1 := by omega
    rcases this with e | e <;> rw [e]
    · exact ⟨_, rfl⟩
    · exact ⟨_, rfl⟩
  have f0 : 0 ≤ y % mn := Int.emod_nonneg _ (by omega)
  have f1 : y % mn < mn := Int.emod_lt_of_pos _ (by omega)
  refine q_setx (d := .int (y % mn)) (v_mod (v_ixL (ds := [.int (d1 * 7), .int d1]) (j := (d2 % 2).toNat) (v_lstx (a_consx (v_mul (gi (n := 1) rfl hd1) v_int (.inr ⟨by omega, by omega⟩)) (a_consx (gi (n := 1) rfl hd1) a_nil)) (by simp)) (v_mod (gi (n := 2) rfl hd2) v_int (by decide)) (by omega) hy) (v_var (i := 3) (d := .int mn) rfl) (by omega)) S fun σ G H S => ?_
  generalize hfs : y % mn = fs at S f0 f1
  obtain ⟨la, hla, la1, la2, la3⟩ : ∃ la : Int, (if fs + d3 % 14 < mn - 1 then fs + d3 % 14 else mn - 1) = la ∧ fs ≤ la ∧ la < mn ∧ la - fs ≤ 13 := ⟨_, rfl, by split <;> omega, by split <;> omega, by split <;> omega⟩
  refine q_setx (d := .int la) (EvX.to (v_min2 (v_sub (v_var (i := 3) (d := .int mn) rfl) v_int) (v_add (v_var (i := 4) (d := .int fs) rfl) (v_mod (gi (n := 3) rfl hd3) v_int (by decide)))) (by rw [hla])) S fun σ G H S => ?_
  obtain ⟨lim, hlim, hl12⟩ : ∃ lim : Nat, d4 % 13 = (lim : Int) ∧ lim ≤ 12 := ⟨(d4 % 13).toNat, by omega, by omega⟩
  refine q_setx (d := .int (lim : Int)) (EvX.to (v_mod (gi (n := 4) rfl hd4) v_int (by decide)) (by rw [hlim])) S fun σ G H S => ?_
  refine q_setx (d := .int 0) v_int S fun σ G H S => ?_
  refine q_setx (d := .int 0) v_int S fun σ G H S => ?_
  refine q_setx (d := .int 0) v_int S fun σ G H S => ?_
  refine q_setx (d := .non) v_non S fun σ G H S => ?_
  refine q_setx (d := .non) v_non S fun σ G H S => ?_
  obtain ⟨cl, hcl⟩ : ∃ cl : Nat → Cl, ∀ n : Nat, CFact K C_Turing C_Registers C_BadArgument st lim (fs + (n : Int)) (cl n) ∧ LFact K st lim (fs + (n : Int)) (cl n) := ⟨fun n => (cl_ex (K := K) (CT := C_Turing) (CR := C_Registers) (CB := C_BadArgument) (st := st) (lim := lim) (ix := fs + (n : Int)) hs1 (by omega) (by omega)).choose, fun n => (cl_ex (K := K) (CT := C_Turing) (CR := C_Registers) (CB := C_BadArgument) (st := st) (lim := lim) (ix := fs + (n : Int)) hs1 (by omega) (by omega)).choose_spec⟩
  refine q_for2 (lo := fs) (hi := la + 1) (j := 12) (a_consx (v_var (i := 4) (d := .int fs) rfl) (a_consx (v_add (v_var (i := 5) (d := .int la) rfl) v_int) a_nil)) (by omega) S (fun n Γ O => O = [] ∧ ∃ z12 z13 z14 z15, Γ = [some (.lst (dI sc)), some (.lst (dI ns)), some (.int (st : Int)), some (.int mn), some (.int fs), some (.int la), some (.int (lim : Int)), some (.int ((acc fs cl n).e : Int)), some (.int ((acc fs cl n).l : Int)), some (.int ((acc fs cl n).o : Int)), some (optP (acc fs cl n).sts), some (optP (acc fs cl n).mks), z12, z13, z14, z15, none, none, none, none]) ⟨rfl, _, _, _, _, rfl⟩ ?_ ?_
  · rintro n Γ O σ G H hn ⟨rfl, z12, z13, z14, z15, rfl⟩ S
    obtain ⟨_, run, hrun, hrl, hcn⟩ := hcl n
    refine q_setx (d := .lst ((rwsA st (fs + (n : Int))).map rowD)) (v_call0x (a_consx (v_var (i := 2) (d := .int (st : Int)) rfl) (a_consx (v_var (i := 12) (d := .int (fs + (n : Int))) rfl) a_nil)) ⟨st, _, hs1, by omega, rfl, rfl⟩) S fun σ G H S => ?_
    refine q_setx (d := .lst run) (v_call0x (P := (· = .lst run)) (a_consx v_int (a_consx (v_var (i := 13) (d := .lst ((rwsA st (fs + (n : Int))).map rowD)) rfl) (a_consx (d := c0) (v_tupx (a_consx v_int (a_consx (v_tupx a_nil (by simp)) (a_consx v_int (a_consx (v_tupx a_nil (by simp)) a_nil)))) (by simp)) (a_consx (d := .int ((lim + 1 : Nat) : Int)) (v_add (v_var (i := 6) (d := .int (lim : Int)) rfl) v_int) a_nil)))) hrun) S fun σ G H S => ?_
    generalize hrw : (rwsA st (fs + (n : Int))).map rowD = rwD at S hcn
    have lenr : ∀ {Γ : List (Option Dat)}, Γ[14]? = some (some (.lst run)) → EvX Wd0 K (tCB (Ly.rLen K) (tCons (tVar 14) tNil)) Γ (.int (run.length : Int)) := fun h => v_lenL (v_var h)
    cases hc : cl n with
    | ends k m =>
      rw [hc] at hcn
      obtain ⟨hlen, hkl, qq, ss, ll, rr, hl1, hr1, hones, hlast⟩ := hcn
      refine g_if (P := (· = true)) (EvBX.to (b_testx (v_le (lenr rfl) (v_add (v_var (i := 6) (d := .int (lim : Int)) rfl) v_int))) (decide_eq_true (by omega))) S (fun _ G H S => ?_) (fun e => nomatch e)
      refine q_setx (d := .int (((acc fs cl n).e : Int) + 1)) (v_add (v_var (i := 7) (d := .int ((acc fs cl n).e : Int)) rfl) v_int) S fun σ G H S => ?_
      have lst : ∀ {Γ : List (Option Dat)}, Γ[14]? = some (some (.lst run)) → EvX Wd0 K (tOp (rIxL K) (tVar 14) (tUn (rU fun i => .int (-i)) (tC (.int 1)))) Γ (cfD qq ll ss rr) := fun h => v_lastL (ds := run) (v_var h) (v_neg v_int) (by omega) hlast
      refine q_setx (d := .int (m : Int)) (EvX.to (v_lenL (EvN.evx (n_lcFT (ns := ll ++ [ss] ++ rr) (p := fun x => decide (x = 1)) (EvX.to (v_cat (v_cat (v_ixT (j := 1) (d := .tup (dI ll)) (lst rfl) v_int rfl rfl) (v_tupx (a_consx (v_ixT (j := 2) (d := .int ss) (lst rfl) v_int rfl rfl) a_nil) (by simp)) (by simp; omega)) (v_ixT (j := 3) (d := .tup (dI rr)) (lst rfl) v_int rfl rfl) (by simp; omega)) (by simp)) (by simp; omega) (fun x => b_testx (v_eqI (v_var (i := 19) (d := .int x) rfl) v_int)) fun x => v_var (i := 19) (d := .int x) rfl) fun ds e => e)) (by
        rw [List.length_map, ← hones]
        unfold ones
        rw [List.countP_eq_length_filter])) S fun σ G H S => ?_
      refine q_cut (fun σ H => ∃ G, S4 Wd0 K H0 H0 H0 [some (.lst (dI sc)), some (.lst (dI ns)), some (.int (st : Int)), some (.int mn), some (.int fs), some (.int la), some (.int (lim : Int)), some (.int (((acc fs cl n).e : Int) + 1)), some (.int ((acc fs cl n).l : Int)), some (.int ((acc fs cl n).o : Int)), some (optP (grO (acc fs cl n).sts (k : Int) (fs + (n : Int)))), some (optP (acc fs cl n).mks), some (.int (fs + (n : Int))), some (.lst rwD), some (.lst run), some (.int (m : Int)), none, none, none, none] [] σ G H) ?_ ?_
      · generalize (acc fs cl n).sts = o at S
        have num : ∀ {Γ : List (Option Dat)}, Γ[14]? = some (some (.lst run)) → EvX Wd0 K (tOp (rI0 fun i j => .int (i - j)) (tCB (Ly.rLen K) (tCons (tVar 14) tNil)) (tC (.int 1))) Γ (.int (k : Int)) := fun h => EvX.to (v_sub (lenr h) v_int) (by rw [hlen]; congr 1; omega)
        cases o with
        | none =>
          refine g_if (P := (· = true)) (EvBX.to (b_orx (a := true) (b := true) (EvBX.to (b_testx (v_isNx (v_var (i := 10) (d := .non) rfl))) rfl) fun h => nomatch h) rfl) S (fun _ G H S => ?_) (fun e => nomatch e)
          exact g_setx (d := optP (some ((k : Int), fs + (n : Int)))) (v_tupx (a_consx (num rfl) (a_consx (v_var (i := 12) (d := .int (fs + (n : Int))) rfl) a_nil)) (by simp)) S fun σ G H S => ⟨G, S⟩
        | some p =>
          obtain ⟨u, v⟩ := p
          refine g_if (P := (· = decide ((k : Int) > u))) (EvBX.to (b_orx (a := false) (b := decide ((k : Int) > u)) (EvBX.to (b_testx (v_isNx (v_var (i := 10) (d := .tup [.int u, .int v]) rfl))) rfl) fun _ => b_testx (v_gt (num rfl) (v_ix0 (d := .int u) (v_var (i := 10) (d := .tup [.int u, .int v]) rfl) rfl))) (Bool.false_or _)) S (fun e G H S => ?_) fun e G H S => ?_
          · have eg : grO (some (u, v)) (k : Int) (fs + (n : Int)) = some ((k : Int), fs + (n : Int)) := if_pos (of_decide_eq_true e.symm)
            rw [eg]
            exact g_setx (d := optP (some ((k : Int), fs + (n : Int)))) (v_tupx (a_consx (num rfl) (a_consx (v_var (i := 12) (d := .int (fs + (n : Int))) rfl) a_nil)) (by simp)) S fun σ G H S => ⟨G, S⟩
          · have eg : grO (some (u, v)) (k : Int) (fs + (n : Int)) = some (u, v) := if_neg (of_decide_eq_false e.symm)
            rw [eg]
            exact ⟨G, S⟩
      rintro σ H ⟨G, S⟩
      have fin : ∀ {σ : L2.St} {G H : Hp}, S4 Wd0 K H0 H0 H0 [some (.lst (dI sc)), some (.lst (dI ns)), some (.int (st : Int)), some (.int mn), some (.int fs), some (.int la), some (.int (lim : Int)), some (.int (((acc fs cl n).e : Int) + 1)), some (.int ((acc fs cl n).l : Int)), some (.int ((acc fs cl n).o : Int)), some (optP (grO (acc fs cl n).sts (k : Int) (fs + (n : Int)))), some (optP (grO (acc fs cl n).mks (m : Int) (fs + (n : Int)))), some (.int (fs + (n : Int))), some (.lst rwD), some (.lst run), some (.int (m : Int)), none, none, none, none] [] σ G H → Word Wd0 K H0 H0 H0 (fun Γ O => O = [] ∧ ∃ z12 z13 z14 z15, Γ = [some (.lst (dI sc)), some (.lst (dI ns)), some (.int (st : Int)), some (.int mn), some (.int fs), some (.int la), some (.int (lim : Int)), some (.int ((acc fs cl (n + 1)).e : Int)), some (.int ((acc fs cl (n + 1)).l : Int)), some (.int ((acc fs cl (n + 1)).o : Int)), some (optP (acc fs cl (n + 1)).sts), some (optP (acc fs cl (n + 1)).mks), z12, z13, z14, z15, none, none, none, none]) σ H := fun S => ⟨_, _, _, ⟨rfl, _, _, _, _, by rw [acc_e hc]; rfl⟩, S⟩
      generalize (acc fs cl n).mks = o at S fin
      cases o with
      | none =>
        refine g_if (P := (· = true)) (EvBX.to (b_orx (a := true) (b := true) (EvBX.to (b_testx (v_isNx (v_var (i := 11) (d := .non) rfl))) rfl) fun h => nomatch h) rfl) S (fun _ G H S => ?_) (fun e => nomatch e)
        exact g_setx (d := optP (some ((m : Int), fs + (n : Int)))) (v_tupx (a_consx (v_var (i := 15) (d := .int (m : Int)) rfl) (a_consx (v_var (i := 12) (d := .int (fs + (n : Int))) rfl) a_nil)) (by simp)) S fun σ G H S => fin S
      | some p =>
        obtain ⟨u, v⟩ := p
        refine g_if (P := (· = decide ((m : Int) > u))) (EvBX.to (b_orx (a := false) (b := decide ((m : Int) > u)) (EvBX.to (b_testx (v_isNx (v_var (i := 11) (d := .tup [.int u, .int v]) rfl))) rfl) fun _ => b_testx (v_gt (v_var (i := 15) (d := .int (m : Int)) rfl) (v_ix0 (d := .int u) (v_var (i := 11) (d := .tup [.int u, .int v]) rfl) rfl))) (Bool.false_or _)) S (fun e G H S => ?_) fun e G H S => ?_
        · have eg : grO (some (u, v)) (m : Int) (fs + (n : Int)) = some ((m : Int), fs + (n : Int)) := if_pos (of_decide_eq_true e.symm)
          rw [eg] at fin
          exact g_setx (d := optP (some ((m : Int), fs + (n : Int)))) (v_tupx (a_consx (v_var (i := 15) (d := .int (m : Int)) rfl) (a_consx (v_var (i := 12) (d := .int (fs + (n : Int))) rfl) a_nil)) (by simp)) S fun σ G H S => fin S
        · have eg : grO (some (u, v)) (m : Int) (fs + (n : Int)) = some (u, v) := if_neg (of_decide_eq_false e.symm)
          rw [eg] at fin
          exact fin S
    | loops =>
      rw [hc] at hcn
      obtain ⟨hlen, p, hA, hp⟩ := hcn
      refine g_if (P := (· = false)) (EvBX.to (b_testx (v_le (lenr rfl) (v_add (v_var (i := 6) (d := .int (lim : Int)) rfl) v_int))) (decide_eq_false (by omega))) S (fun e => nomatch e) fun _ G H S => ?_
      refine g_if (P := (· = true)) (EvBX.to (b_testx (v_notNx (a := p) (v_call0x (a_consx v_int (a_consx (v_var (i := 13) (d := .lst rwD) rfl) (a_consx (d := .lst (run.take (lim + 1))) (EvX.to (n_slL (v_var (i := 14) (d := .lst run) rfl) o_none (o_some (v_add (v_var (i := 6) (d := .int (lim : Int)) rfl) v_int))) (by rw [show (lim : Int) + 1 = ((lim + 1 : Nat) : Int) by omega, cutD_to])) (a_consx (v_var (i := 6) (d := .int (lim : Int)) rfl) a_nil)))) hA))) (by rw [hp]; rfl)) S (fun _ G H S => ?_) (fun e => nomatch e)
      exact g_setx (d := .int (((acc fs cl n).l : Int) + 1)) (v_add (v_var (i := 8) (d := .int ((acc fs cl n).l : Int)) rfl) v_int) S fun σ G H S => ⟨_, _, _, ⟨rfl, _, _, _, _, by rw [acc_l hc]; rfl⟩, S⟩
    | opn =>
      rw [hc] at hcn
      obtain ⟨hlen, p, hA, hp⟩ := hcn
      refine g_if (P := (· = false)) (EvBX.to (b_testx (v_le (lenr rfl) (v_add (v_var (i := 6) (d := .int (lim : Int)) rfl) v_int))) (decide_eq_false (by omega))) S (fun e => nomatch e) fun _ G H S => ?_
      refine g_if (P := (· = false)) (EvBX.to (b_testx (v_notNx (a := p) (v_call0x (a_consx v_int (a_consx (v_var (i := 13) (d := .lst rwD) rfl) (a_consx (d := .lst (run.take (lim + 1))) (EvX.to (n_slL (v_var (i := 14) (d := .lst run) rfl) o_none (o_some (v_add (v_var (i := 6) (d := .int (lim : Int)) rfl) v_int))) (by rw [show (lim : Int) + 1 = ((lim + 1 : Nat) : Int) by omega, cutD_to])) (a_consx (v_var (i := 6) (d := .int (lim : Int)) rfl) a_nil)))) hA))) (by rw [hp]; rfl)) S (fun e => nomatch e) fun _ G H S => ?_
      exact g_setx (d := .int (((acc fs cl n).o : Int) + 1)) (v_add (v_var (i := 9) (d := .int ((acc fs cl n).o : Int)) rfl) v_int) S fun σ G H S => ⟨_, _, _, ⟨rfl, _, _, _, _, by rw [acc_o hc]; rfl⟩, S⟩
  · rintro Γ O σ G H ⟨rfl, z12, z13, z14, z15, rfl⟩ S
    generalize hnn : (la + 1 - fs).toNat = nn at S
    have hi : ∀ v : Int, fs ≤ v → v ≤ la → InIx (st : Int) v := fun v h1 h2 => ⟨by omega, by omega, by rw [hmany]; omega⟩
    refine q_when (P := (· = false)) (EvBX.to (b_notx (a := true) (b_Bx (v_call0x (P := (· = .bl true)) (a_consx (d := totD (acc fs cl nn)) (v_callXx (a_consx (v_var (i := 2) (d := .int (st : Int)) rfl) (a_consx (v_var (i := 4) (d := .int fs) rfl) (a_consx (v_var (i := 5) (d := .int la) rfl) (a_consx (v_var (i := 6) (d := .int (lim : Int)) rfl) a_nil)))) ⟨(st : Int), fs, la, (lim : Int), rfl, .inr ⟨st, lim, cl, rfl, rfl, hs2, by omega, hi fs (by omega) (by omega), hi la (by omega) (by omega), la1, by omega, fun n _ => (hcl n).1, by rw [show (la - fs + 1).toNat = nn by omega]⟩⟩) (a_consx (d := totD (acc fs cl nn)) (v_tupx (a_consx (v_var (i := 7) (d := .int ((acc fs cl nn).e : Int)) rfl) (a_consx (v_var (i := 8) (d := .int ((acc fs cl nn).l : Int)) rfl) (a_consx (v_var (i := 9) (d := .int ((acc fs cl nn).o : Int)) rfl) (a_consx (v_var (i := 10) (d := optP (acc fs cl nn).sts) rfl) (a_consx (v_var (i := 11) (d := optP (acc fs cl nn).mks) rfl) a_nil))))) (by simp)) a_nil)) ⟨_, _, true, pl_tot _, pl_tot _, ⟨fun _ => rfl, fun _ => rfl⟩, rfl, rfl⟩))) rfl) S (fun e => nomatch e) fun _ G H S => ?_
    have hg : 0 ≤ cellV sc 1 % (10 ^ 30 : Int) := Int.emod_nonneg _ (by decide)
    refine q_setx (d := .int (cellV sc 1 % (10 ^ 30 : Int))) (v_mod (v_int1 (v_call0x (P := (· = .int (cellV sc 1))) (a_consx (v_var (i := 0) (d := .lst (dI sc)) rfl) (a_consx v_int a_nil)) ⟨sc, 1, hl, rfl, rfl⟩)) (v_pow v_int v_int ⟨by omega, by omega, by decide⟩) (by decide)) S fun σ G H S => ?_
    generalize cellV sc 1 % (10 ^ 30 : Int) = g at S hg
    have gv : ∀ {Γ : List (Option Dat)}, Γ[16]? = some (some (.int g)) → EvX Wd0 K (tVar 16) Γ (.int g) := fun h => v_var h
    refine q_setx (d := .lst [t4 0 0 0 1, t4 (7 + g) 0 0 1, t4 1 3 2 1, t4 1 (-1 - g) 0 1, t4 1 0 (49 + g) 1, t4 2 0 2000 1, t4 1 0 0 (-1 - g), t4 1 0 0 (301 + g)]) (v_lstx (a_consx (v_tupx (a_consx v_int (a_consx v_int (a_consx v_int (a_consx v_int a_nil)))) (by simp)) (a_consx (v_tupx (a_consx (v_add v_int (gv rfl)) (a_consx v_int (a_consx v_int (a_consx v_int a_nil)))) (by simp)) (a_consx (v_tupx (a_consx v_int (a_consx v_int (a_consx v_int (a_consx v_int a_nil)))) (by simp))
      (a_consx (v_tupx (a_consx v_int (a_consx (v_sub (v_neg v_int) (gv rfl)) (a_consx v_int (a_consx v_int a_nil)))) (by simp)) (a_consx (v_tupx (a_consx v_int (a_consx v_int (a_consx (v_add v_int (gv rfl)) (a_consx v_int a_nil)))) (by simp)) (a_consx (v_tupx (a_consx v_int (a_consx v_int (a_consx v_int (a_consx v_int a_nil)))) (by simp)) (a_consx (v_tupx (a_consx v_int (a_consx v_int (a_consx v_int (a_consx (v_sub (v_neg v_int) (gv rfl)) a_nil)))) (by simp)) (a_consx (v_tupx (a_consx v_int (a_consx v_int (a_consx v_int (a_consx (v_add v_int (gv rfl)) a_nil)))) (by simp)) a_nil)))))))) (by simp)) S fun σ G H S => ?_
    obtain ⟨w4, x4, y4, z4, hget, hbad⟩ := bad_rows g hg (d5 % 8).toNat (by omega)
    refine q_setx (d := t4 w4 x4 y4 z4) (v_ixL (j := (d5 % 8).toNat) (v_var (i := 17) rfl) (v_mod (gi (n := 5) rfl hd5) v_int (by decide)) (by omega) hget) S fun σ G H S => ?_
    exact g_ret (P := (· = .bl true)) (v_call0x (a_consx (v_ix0 (d := .int w4) (v_var (i := 18) (d := t4 w4 x4 y4 z4) rfl) rfl) (a_consx (v_ixT (j := 1) (d := .int x4) (v_var (i := 18) (d := t4 w4 x4 y4 z4) rfl) v_int rfl rfl) (a_consx (v_ixT (j := 2) (d := .int y4) (v_var (i := 18) (d := t4 w4 x4 y4 z4) rfl) v_int rfl rfl) (a_consx (v_ixT (j := 3) (d := .int z4) (v_var (i := 18) (d := t4 w4 x4 y4 z4) rfl) v_int rfl rfl) a_nil)))) ⟨w4, x4, y4, z4, hbad, rfl, rfl⟩) S fun v d G2 H2 s p r => by
      subst p
      cases r
      exact q H2
end
end K89

set_option maxHeartbeats 4000000
namespace K89
open PySem L2 Ly
section
variable {P : Program} {w : World} {K : PySem.W.Frag} {mg : Str → Option Value} {base : Heap} {C_Turing C_Registers C_InvalidMachine C_BadArgument : Addr}
theorem ok_main (T : Txt K w mg C_Turing C_Registers C_InvalidMachine C_BadArgument) (D_refuse_negative : Df K mg "refuse_negative" s_refuse_negative) (D_after : Df K mg "after" s_after) (D_history : Df K mg "history" s_history) (D_names_what_is_there : Df K mg "_names_what_is_there" s_names_what_is_there) (D_Registers_init : ∃ f fd, Mk K C_Registers f ∧ Fun K "__init__" "Registers.__init__" s_Registers_init f fd) (D_Registers_eq : ∃ f fd, ClsQ K C_Registers f ∧ Fun K "__eq__" "Registers.__eq__" s_Registers_eq f fd) (D_changed : Df K mg "_changed" s_changed) (D_Registers_step : ∃ f fd, Meth K C_Registers "step" f ∧ Fun K "step" "Registers.step" s_Registers_step f fd) (D_are_rules : Df K mg "_are_rules" s_are_rules) (D_Turing_init : ∃ f fd, Mk K C_Turing f ∧ Fun K "__init__" "Turing.__init__" s_Turing_init f fd) (D_Turing_eq : ∃ f fd, ClsQ K C_Turing f ∧ Fun K "__eq__" "Turing.__eq__" s_Turing_eq f fd) (D_Turing_step : ∃ f fd, Meth K C_Turing "step" f ∧ Fun K "step" "Turing.step" s_Turing_step f fd) (D_Turing_rule : ∃ f fd, Meth K C_Turing "rule" f ∧ Fun K "rule" "Turing.rule" s_Turing_rule f fd) (D_without_end_blanks : Df K mg "without_end_blanks" s_without_end_blanks) (D_start : Df K mg "start" s_start) (D_content : Df K mg "content" s_content) (D_refuse_limit : Df K mg "_refuse_limit" s_refuse_limit) (D_head_cells : Df K mg "_head_cells" s_head_cells) (D_note : Df K mg "_note" s_note) (D_are_near : Df K mg "_are_near" s_are_near) (D_are_same : Df K mg "_are_same" s_are_same) (D_is_shift : Df K mg "_is_shift" s_is_shift) (D_named : Df K mg "_named" s_named) (D_found_shift : Df K mg "_found_shift" s_found_shift) (D_is_growth : Df K mg "_is_growth" s_is_growth) (D_found_growth : Df K mg "_found_growth" s_found_growth) (D_found : Df K mg "_found" s_found) (D_judge : Df K mg "judge" s_judge) (D_power : Df K mg "power" s_power) (D_refuse_states : Df K mg "_refuse_states" s_refuse_states) (D_entry_count : Df K mg "_entry_count" s_entry_count) (D_machine_count : Df K mg "machine_count" s_machine_count) (D_refuse_index : Df K mg "_refuse_index" s_refuse_index) (D_rule : Df K mg "_rule" s_rule) (D_machine_at : Df K mg "machine_at" s_machine_at) (D_greater : Df K mg "_greater" s_greater) (D_census : Df K mg "census" s_census) (D_law_cell : Df K mg "_law_cell" s_law_cell) (D_law_draws : Df K mg "_law_draws" s_law_draws) (D_law_like : Df K mg "_law_like" s_law_like) (D_law_strip : Df K mg "_law_strip" s_law_strip) (D_law_turing_step : Df K mg "_law_turing_step" s_law_turing_step) (D_law_table : Df K mg "_law_table" s_law_table) (D_law_registers_step : Df K mg "_law_registers_step" s_law_registers_step) (D_law_own_run : Df K mg "_law_own_run" s_law_own_run) (D_law_places : Df K mg "_law_places" s_law_places) (D_law_symbol_at : Df K mg "_law_symbol_at" s_law_symbol_at) (D_law_right_paper : Df K mg "_law_right_paper" s_law_right_paper) (D_law_sought : Df K mg "_law_sought" s_law_sought) (D_law_bad : Df K mg "_law_bad" s_law_bad) (D_law_entries : Df K mg "_law_entries" s_law_entries) {f : Addr} {fd : FuncData} (F : Fun K "law" "law" s_law f fd) : FnOk P w K mg base CX0 9 f fd ["script"] (spLaw K) :=
  have ctab := KT.ok_table D_law_table T
  have st : MetP P w K mg base 4 "step" (LS C_Turing C_Registers K) := .cons (KT.ok_tstep D_Turing_step T) (.cons (KR.ok_step D_Registers_step T (KR.ok_changed D_changed T)) .nil)
  have ru : MetP P w K mg base 1 "rule" [(C_Turing, spOf Wd0 K (KT.A_rule C_Turing))] := .cons (KT.ok_rule D_Turing_rule T) .nil
  have QT : ∃ f, ClsQ K C_Turing f := D_Turing_eq.elim fun fq ⟨_, hq, _⟩ => ⟨fq, hq⟩
  have QR : ∃ f, ClsQ K C_Registers f := D_Registers_eq.elim fun fq ⟨_, hq, _⟩ => ⟨fq, hq⟩
  have ch := ok_history D_history T (ok_neg D_refuse_negative T) st
  have cnote := ok_note QT QR D_note T ru
  have csh := ok_shift D_is_shift T (ok_same D_are_same T) (ok_near D_are_near T (ok_without D_without_end_blanks T))
  have cnm := ok_named D_named T
  have cf := ok_found QT QR D_found T (ok_fsh D_found_shift T cnote (ok_cells D_head_cells T) csh cnm) (ok_fgr D_found_growth T cnote (ok_growth D_is_growth T) cnm)
  have cfp := ok_judge D_judge T (ok_lim D_refuse_limit T) ch st cf
  have cdr := ok_draws D_law_draws T
  have cti := KT.ok_tinit D_Turing_init T (KT.ok_are D_are_rules T)
  have cor := ok_ownrun D_law_own_run T ctab (KT.ok_lstep D_law_turing_step T (KT.ok_stripT D_law_strip T)) (KR.ok_rstep D_law_registers_step T)
  have crt := ok_right D_law_right_paper T (ok_places D_law_places T ctab) (ok_sym D_law_symbol_at T)
  have cwo := ok_without D_without_end_blanks T
  have crs := ok_refuseX D_refuse_states T
  have cec := ok_ecount D_entry_count T
  have cmc := ok_mcountX D_machine_count T crs cec (ok_power D_power T)
  have cri := ok_rindexX D_refuse_index T cmc
  have cat := ok_atX D_machine_at T cri cec (ok_mkrule D_rule T) cti
  have cce := ok_census D_census T cri (ok_start0 D_start T cwo) cat cfp (ok_after D_after T (ok_neg D_refuse_negative T) st) (ok_content D_content T cwo) (ok_gr D_greater T)
  ok_law F T (ok_cellx D_law_cell T) cdr (ok_likeG D_law_like T 4) (ok_entries D_law_entries T) cor (ok_sought D_law_sought T crt) cce (ok_bad D_law_bad T cce)
end
theorem all_mk {l : PySem.W.OpenLaw} {w : World} {K : PySem.W.Frag} {h : Heap} {mg : Str → Option Value} {fa f0 f1 f2 f3 f4 f5 f6 f7 f8 f9 f10 f11 f12 f13 f14 f15 f16 f17 f18 f19 f20 f21 f22 f23 f24 f25 f26 f27 f28 f29 f30 f31 f32 f33 f34 f35 f36 f37 f38 f39 f40 f41 f42 f43 f44 f45 f46 f47 f48 f49 f50 f51 C_Turing C_Registers C_InvalidMachine C_BadArgument : Addr} (X : K.In h) (G : h.Ns mainGlobals mg) (hfa : mg "law" = some (.ref fa)) {t_MOST_REGISTERS : Tok} {t_MOST_INSTRUCTIONS : Tok} {t_MOST_STATES_turing : Tok} {t_MOST_SYMBOLS : Tok} {t_BLANK : Tok} {t_GREATEST_LIMIT : Tok} {t_MOST_STATES_census : Tok} {t_MOST_MACHINES : Tok} {t_MARK : Tok}
    {od0 an0 od1 an1 od2 an2 od3 an3 od4 an4 od5 an5 od6 an6 od7 an7 od8 an8 od9 an9 od10 an10 od11 an11 od12 an12 od13 an13 od14 an14 od15 an15 od16 an16 od17 an17 od18 an18 od19 an19 od20 an20 od21 an21 od22 an22 od23 an23 od24 an24 od25 an25 od26 an26 od27 an27 od28 an28 od29 an29 od30 an30 od31 an31 od32 an32 od33 an33 od34 an34 od35 an35 od36 an36 od37 an37 od38 an38 od39 an39 od40 an40 od41 an41 od42 an42 od43 an43 od44 an44 od45 an45 od46 an46 od47 an47 od48 an48 od49 an49 od50 an50 od51 an51 : Option Addr} {sl0 sl1 sl2 sl3 sl4 sl5 sl6 sl7 sl8 sl9 sl10 sl11 sl12 sl13 sl14 sl15 sl16 sl17 sl18 sl19 sl20 sl21 sl22 sl23 sl24 sl25 sl26 sl27 sl28 sl29 sl30 sl31 sl32 sl33 sl34 sl35 sl36 sl37 sl38 sl39 sl40 sl41 sl42 sl43 sl44 sl45 sl46 sl47 sl48 sl49 sl50 sl51 : Array (Option Value)} {oc0 kV0 dc0 pm0 cd0 ct0 oc1 kV1 dc1 pm1 cd1 ct1 oc2 kV2 dc2 pm2 cd2 ct2 oc3 kV3 dc3 pm3 cd3 ct3 oc4 kV4 dc4 pm4 cd4 ct4 oc5 kV5 dc5 pm5 cd5 ct5 oc6 kV6 dc6 pm6 cd6 ct6 oc7 kV7 dc7 pm7 cd7 ct7 oc8 kV8 dc8 pm8 cd8 ct8 oc9 kV9 dc9 pm9 cd9 ct9 oc10 kV10 dc10 pm10 cd10 ct10 oc11 kV11 dc11 pm11 cd11 ct11 oc12 kV12 dc12 pm12 cd12 ct12 oc13 kV13 dc13 pm13 cd13 ct13 oc14 kV14 dc14 pm14 cd14 ct14 oc15 kV15 dc15 pm15 cd15 ct15 oc16 kV16 dc16 pm16 cd16 ct16 oc17 kV17 dc17 pm17 cd17 ct17 oc18 kV18 dc18 pm18 cd18 ct18 oc19 kV19 dc19 pm19 cd19 ct19 oc20 kV20 dc20 pm20 cd20 ct20 oc21 kV21 dc21 pm21 cd21 ct21 oc22 kV22 dc22 pm22 cd22 ct22 oc23 kV23 dc23 pm23 cd23 ct23 oc24 kV24 dc24 pm24 cd24 ct24 oc25 kV25 dc25 pm25 cd25 ct25 oc26 kV26 dc26 pm26 cd26 ct26 oc27 kV27 dc27 pm27 cd27 ct27 oc28 kV28 dc28 pm28 cd28 ct28 oc29 kV29 dc29 pm29 cd29 ct29 oc30 kV30 dc30 pm30 cd30 ct30 oc31 kV31 dc31 pm31 cd31 ct31 oc32 kV32 dc32 pm32 cd32 ct32 oc33 kV33 dc33 pm33 cd33 ct33 oc34 kV34 dc34 pm34 cd34 ct34 oc35 kV35 dc35 pm35 cd35 ct35 oc36 kV36 dc36 pm36 cd36 ct36 oc37 kV37 dc37 pm37 cd37 ct37 oc38 kV38 dc38 pm38 cd38 ct38 oc39 kV39 dc39 pm39 cd39 ct39 oc40 kV40 dc40 pm40 cd40 ct40 oc41 kV41 dc41 pm41 cd41 ct41 oc42 kV42 dc42 pm42 cd42 ct42 oc43 kV43 dc43 pm43 cd43 ct43 oc44 kV44 dc44 pm44 cd44 ct44 oc45 kV45 dc45 pm45 cd45 ct45 oc46 kV46 dc46 pm46 cd46 ct46 oc47 kV47 dc47 pm47 cd47 ct47 oc48 kV48 dc48 pm48 cd48 ct48 oc49 kV49 dc49 pm49 cd49 ct49 oc50 kV50 dc50 pm50 cd50 ct50 oc51 kV51 dc51 pm51 cd51 ct51 : Value} {nm5 q5 : Str} {N5 : Addr} {bs5 : List Value} {sn5 : List Str} {sub5 : List Value} {ab5 : Bool} {col5 : Option Bool} {dd5 : Option Addr} {x05 x15 x25 x35 x55 : Option Value} {nw5 : String} {nm10 q10 : Str} {N10 : Addr} {bs10 : List Value} {sn10 : List Str} {sub10 : List Value} {ab10 : Bool} {col10 : Option Bool} {dd10 : Option Addr} {x010 x110 x210 x310 x510 : Option Value} {nw10 : String}
    (g_Turing : PySem.W.nsIn K mainGlobals "Turing" = some (some (.ref C_Turing)))
    (g_Registers : PySem.W.nsIn K mainGlobals "Registers" = some (some (.ref C_Registers)))
    (g_InvalidMachine : PySem.W.nsIn K mainGlobals "InvalidMachine" = some (some (.ref C_InvalidMachine)))
    (g_BadArgument : PySem.W.nsIn K mainGlobals "BadArgument" = some (some (.ref C_BadArgument)))
    (hn0 : PySem.W.specialIn K (.builtin "object.__class__") "__get__" = some (some (.builtin "getset_descriptor.__get__")))
    (ht0 : PySem.W.takesIn K (.builtin "object.__class__") = some true)
    (pg_Turing : PySem.W.plainGet K C_Turing Str.empty = true)
    (hd_Turing : PySem.W.hasDictIn K C_Turing = true)
    (po_Turing : PySem.W.plainOver K C_Turing = true)
    (sa_Turing : PySem.W.findIn K (.ref C_Turing) "__setattr__" = some (some (.builtin "object.__setattr__")))
    (mk_Turing : PySem.W.makesIn K C_Turing = true)
    (kp_Turing : PySem.W.keepIn K (.ref C_Turing) = true)
    (na_Turing_states : PySem.W.findIn K (.ref C_Turing) "states" = some none)
    (na_Turing_symbols : PySem.W.findIn K (.ref C_Turing) "symbols" = some none)
    (na_Turing_rules : PySem.W.findIn K (.ref C_Turing) "rules" = some none)
    (na_Turing__rules_at : PySem.W.findIn K (.ref C_Turing) "_rules_at" = some none)
    (ha_Turing : PySem.W.findIn K (.ref C_Turing) "__class__" = some (some (.builtin "object.__class__")))
    (hm_Turing : PySem.W.mroIn K C_Turing (.type "object") = some true)
    (pg_Registers : PySem.W.plainGet K C_Registers Str.empty = true)
    (hd_Registers : PySem.W.hasDictIn K C_Registers = true)
    (po_Registers : PySem.W.plainOver K C_Registers = true)
    (sa_Registers : PySem.W.findIn K (.ref C_Registers) "__setattr__" = some (some (.builtin "object.__setattr__")))
    (mk_Registers : PySem.W.makesIn K C_Registers = true)
    (kp_Registers : PySem.W.keepIn K (.ref C_Registers) = true)
    (na_Registers_count : PySem.W.findIn K (.ref C_Registers) "count" = some none)
    (na_Registers_instructions : PySem.W.findIn K (.ref C_Registers) "instructions" = some none)
    (ha_Registers : PySem.W.findIn K (.ref C_Registers) "__class__" = some (some (.builtin "object.__class__")))
    (hm_Registers : PySem.W.mroIn K C_Registers (.type "object") = some true)
    (kp_InvalidMachine : PySem.W.keepIn K (.ref C_InvalidMachine) = true)
    (ex_InvalidMachine : PySem.W.excIn K C_InvalidMachine [.type "ValueError", .type "Exception", .type "BaseException", .type "object"] "ValueError.__new__" = true)
    (sb_InvalidMachine : PySem.W.subIn K (.ref C_InvalidMachine) (.type "BaseException") = some true)
    (ty_InvalidMachine : PySem.W.typeIn K (.ref C_InvalidMachine) = some (.type "type"))
    (hd_InvalidMachine : PySem.W.hasDictIn K C_InvalidMachine = true)
    (sf_InvalidMachine : PySem.W.subIn K (.ref C_InvalidMachine) (.ref C_InvalidMachine) = some true)
    (ga_InvalidMachine : PySem.W.findIn K (.ref C_InvalidMachine) "__getattribute__" = some (some (.builtin "BaseException.__getattribute__")))
    (gg_InvalidMachine : PySem.W.findIn K (.ref C_InvalidMachine) "__getattr__" = some none)
    (ha_InvalidMachine : PySem.W.findIn K (.ref C_InvalidMachine) "__class__" = some (some (.builtin "object.__class__")))
    (hm_InvalidMachine : PySem.W.mroIn K C_InvalidMachine (.type "object") = some true)
    (kp_BadArgument : PySem.W.keepIn K (.ref C_BadArgument) = true)
    (ex_BadArgument : PySem.W.excIn K C_BadArgument [.type "ValueError", .type "Exception", .type "BaseException", .type "object"] "ValueError.__new__" = true)
    (sb_BadArgument : PySem.W.subIn K (.ref C_BadArgument) (.type "BaseException") = some true)
    (ty_BadArgument : PySem.W.typeIn K (.ref C_BadArgument) = some (.type "type"))
    (hd_BadArgument : PySem.W.hasDictIn K C_BadArgument = true)
    (sf_BadArgument : PySem.W.subIn K (.ref C_BadArgument) (.ref C_BadArgument) = some true)
    (ga_BadArgument : PySem.W.findIn K (.ref C_BadArgument) "__getattribute__" = some (some (.builtin "BaseException.__getattribute__")))
    (gg_BadArgument : PySem.W.findIn K (.ref C_BadArgument) "__getattr__" = some none)
    (ha_BadArgument : PySem.W.findIn K (.ref C_BadArgument) "__class__" = some (some (.builtin "object.__class__")))
    (hm_BadArgument : PySem.W.mroIn K C_BadArgument (.type "object") = some true)
    (kit_ki_Turing_Registers : PySem.W.kitOne K (.ref C_Turing) (.ref C_Registers) = some false)
    (kit_ki_Registers_Turing : PySem.W.kitOne K (.ref C_Registers) (.ref C_Turing) = some false)
    (a0 : PySem.W.nsIn K mainGlobals "refuse_negative" = some (some (.ref f0)))
    (l0 : K.lookup f0 = some ⟨oc0, od0, .func (PySem.W.fnOf "refuse_negative" "refuse_negative" (defArgs s_refuse_negative) (defBody s_refuse_negative) (defScope s_refuse_negative) .none kV0 dc0 pm0 an0 cd0 ct0), sl0⟩)
    (c0 : PySem.W.codeIn K cd0 "refuse_negative" = true)
    (k0 : PySem.W.keepIn K (.ref f0) = true)
    (a1 : PySem.W.nsIn K mainGlobals "after" = some (some (.ref f1)))
    (l1 : K.lookup f1 = some ⟨oc1, od1, .func (PySem.W.fnOf "after" "after" (defArgs s_after) (defBody s_after) (defScope s_after) .none kV1 dc1 pm1 an1 cd1 ct1), sl1⟩)
    (c1 : PySem.W.codeIn K cd1 "after" = true)
    (k1 : PySem.W.keepIn K (.ref f1) = true)
    (a2 : PySem.W.nsIn K mainGlobals "history" = some (some (.ref f2)))
    (l2 : K.lookup f2 = some ⟨oc2, od2, .func (PySem.W.fnOf "history" "history" (defArgs s_history) (defBody s_history) (defScope s_history) .none kV2 dc2 pm2 an2 cd2 ct2), sl2⟩)
    (c2 : PySem.W.codeIn K cd2 "history" = true)
    (k2 : PySem.W.keepIn K (.ref f2) = true)
    (a3 : PySem.W.nsIn K mainGlobals "_names_what_is_there" = some (some (.ref f3)))
    (l3 : K.lookup f3 = some ⟨oc3, od3, .func (PySem.W.fnOf "_names_what_is_there" "_names_what_is_there" (defArgs s_names_what_is_there) (defBody s_names_what_is_there) (defScope s_names_what_is_there) .none kV3 dc3 pm3 an3 cd3 ct3), sl3⟩)
    (c3 : PySem.W.codeIn K cd3 "_names_what_is_there" = true)
    (k3 : PySem.W.keepIn K (.ref f3) = true)
    (a4 : PySem.W.findIn K (.ref C_Registers) "__init__" = some (some (.ref f4)))
    (n4 : PySem.W.isFn K (.ref f4) = true)
    (l4 : K.lookup f4 = some ⟨oc4, od4, .func (PySem.W.fnOf "__init__" "Registers.__init__" (defArgs s_Registers_init) (defBody s_Registers_init) (defScope s_Registers_init) .none kV4 dc4 pm4 an4 cd4 ct4), sl4⟩)
    (c4 : PySem.W.codeIn K cd4 "Registers.__init__" = true)
    (k4 : PySem.W.keepIn K (.ref f4) = true)
    (a5 : PySem.W.findIn K (.ref C_Registers) "__eq__" = some (some (.ref f5)))
    (n5 : PySem.W.isFn K (.ref f5) = true)
    (l5 : K.lookup f5 = some ⟨oc5, od5, .func (PySem.W.fnOf "__eq__" "Registers.__eq__" (defArgs s_Registers_eq) (defBody s_Registers_eq) (defScope s_Registers_eq) .none kV5 dc5 pm5 an5 cd5 ct5), sl5⟩)
    (c5 : PySem.W.codeIn K cd5 "Registers.__eq__" = true)
    (k5 : PySem.W.keepIn K (.ref f5) = true)
    (xl5 : K.lookup C_Registers = some (excClassObj nm5 q5 C_Registers N5 bs5 [.type "object"] true sn5 sub5 ab5 col5 dd5 x05 x15 x25 x35 x55 nw5))
    (xn5 : PySem.W.nsOkIn K N5 = true)
    (xe5 : PySem.W.nsIn K N5 "__eq__" = some (some (.ref f5)))
    (xx5 : PySem.W.nsIn K N5 "__ne__" = some none)
    (a6 : PySem.W.nsIn K mainGlobals "_changed" = some (some (.ref f6)))
    (l6 : K.lookup f6 = some ⟨oc6, od6, .func (PySem.W.fnOf "_changed" "_changed" (defArgs s_changed) (defBody s_changed) (defScope s_changed) .none kV6 dc6 pm6 an6 cd6 ct6), sl6⟩)
    (c6 : PySem.W.codeIn K cd6 "_changed" = true)
    (k6 : PySem.W.keepIn K (.ref f6) = true)
    (a7 : PySem.W.findIn K (.ref C_Registers) "step" = some (some (.ref f7)))
    (n7 : PySem.W.isFn K (.ref f7) = true)
    (l7 : K.lookup f7 = some ⟨oc7, od7, .func (PySem.W.fnOf "step" "Registers.step" (defArgs s_Registers_step) (defBody s_Registers_step) (defScope s_Registers_step) .none kV7 dc7 pm7 an7 cd7 ct7), sl7⟩)
    (c7 : PySem.W.codeIn K cd7 "Registers.step" = true)
    (k7 : PySem.W.keepIn K (.ref f7) = true)
    (a8 : PySem.W.nsIn K mainGlobals "_are_rules" = some (some (.ref f8)))
    (l8 : K.lookup f8 = some ⟨oc8, od8, .func (PySem.W.fnOf "_are_rules" "_are_rules" (defArgs s_are_rules) (defBody s_are_rules) (defScope s_are_rules) .none kV8 dc8 pm8 an8 cd8 ct8), sl8⟩)
    (c8 : PySem.W.codeIn K cd8 "_are_rules" = true)
    (k8 : PySem.W.keepIn K (.ref f8) = true)
    (a9 : PySem.W.findIn K (.ref C_Turing) "__init__" = some (some (.ref f9)))
    (n9 : PySem.W.isFn K (.ref f9) = true)
    (l9 : K.lookup f9 = some ⟨oc9, od9, .func (PySem.W.fnOf "__init__" "Turing.__init__" (defArgs s_Turing_init) (defBody s_Turing_init) (defScope s_Turing_init) .none kV9 dc9 pm9 an9 cd9 ct9), sl9⟩)
    (c9 : PySem.W.codeIn K cd9 "Turing.__init__" = true)
    (k9 : PySem.W.keepIn K (.ref f9) = true)
    (a10 : PySem.W.findIn K (.ref C_Turing) "__eq__" = some (some (.ref f10)))
    (n10 : PySem.W.isFn K (.ref f10) = true)
    (l10 : K.lookup f10 = some ⟨oc10, od10, .func (PySem.W.fnOf "__eq__" "Turing.__eq__" (defArgs s_Turing_eq) (defBody s_Turing_eq) (defScope s_Turing_eq) .none kV10 dc10 pm10 an10 cd10 ct10), sl10⟩)
    (c10 : PySem.W.codeIn K cd10 "Turing.__eq__" = true)
    (k10 : PySem.W.keepIn K (.ref f10) = true)
    (xl10 : K.lookup C_Turing = some (excClassObj nm10 q10 C_Turing N10 bs10 [.type "object"] true sn10 sub10 ab10 col10 dd10 x010 x110 x210 x310 x510 nw10))
    (xn10 : PySem.W.nsOkIn K N10 = true)
    (xe10 : PySem.W.nsIn K N10 "__eq__" = some (some (.ref f10)))
    (xx10 : PySem.W.nsIn K N10 "__ne__" = some none)
    (a11 : PySem.W.findIn K (.ref C_Turing) "step" = some (some (.ref f11)))
    (n11 : PySem.W.isFn K (.ref f11) = true)
    (l11 : K.lookup f11 = some ⟨oc11, od11, .func (PySem.W.fnOf "step" "Turing.step" (defArgs s_Turing_step) (defBody s_Turing_step) (defScope s_Turing_step) .none kV11 dc11 pm11 an11 cd11 ct11), sl11⟩)
    (c11 : PySem.W.codeIn K cd11 "Turing.step" = true)
    (k11 : PySem.W.keepIn K (.ref f11) = true)
    (a12 : PySem.W.findIn K (.ref C_Turing) "rule" = some (some (.ref f12)))
    (n12 : PySem.W.isFn K (.ref f12) = true)
    (l12 : K.lookup f12 = some ⟨oc12, od12, .func (PySem.W.fnOf "rule" "Turing.rule" (defArgs s_Turing_rule) (defBody s_Turing_rule) (defScope s_Turing_rule) .none kV12 dc12 pm12 an12 cd12 ct12), sl12⟩)
    (c12 : PySem.W.codeIn K cd12 "Turing.rule" = true)
    (k12 : PySem.W.keepIn K (.ref f12) = true)
    (a13 : PySem.W.nsIn K mainGlobals "without_end_blanks" = some (some (.ref f13)))
    (l13 : K.lookup f13 = some ⟨oc13, od13, .func (PySem.W.fnOf "without_end_blanks" "without_end_blanks" (defArgs s_without_end_blanks) (defBody s_without_end_blanks) (defScope s_without_end_blanks) .none kV13 dc13 pm13 an13 cd13 ct13), sl13⟩)
    (c13 : PySem.W.codeIn K cd13 "without_end_blanks" = true)
    (k13 : PySem.W.keepIn K (.ref f13) = true)
    (a14 : PySem.W.nsIn K mainGlobals "start" = some (some (.ref f14)))
    (l14 : K.lookup f14 = some ⟨oc14, od14, .func (PySem.W.fnOf "start" "start" (defArgs s_start) (defBody s_start) (defScope s_start) .none kV14 dc14 pm14 an14 cd14 ct14), sl14⟩)
    (c14 : PySem.W.codeIn K cd14 "start" = true)
    (k14 : PySem.W.keepIn K (.ref f14) = true)
    (a15 : PySem.W.nsIn K mainGlobals "content" = some (some (.ref f15)))
    (l15 : K.lookup f15 = some ⟨oc15, od15, .func (PySem.W.fnOf "content" "content" (defArgs s_content) (defBody s_content) (defScope s_content) .none kV15 dc15 pm15 an15 cd15 ct15), sl15⟩)
    (c15 : PySem.W.codeIn K cd15 "content" = true)
    (k15 : PySem.W.keepIn K (.ref f15) = true)
    (a16 : PySem.W.nsIn K mainGlobals "_refuse_limit" = some (some (.ref f16)))
    (l16 : K.lookup f16 = some ⟨oc16, od16, .func (PySem.W.fnOf "_refuse_limit" "_refuse_limit" (defArgs s_refuse_limit) (defBody s_refuse_limit) (defScope s_refuse_limit) .none kV16 dc16 pm16 an16 cd16 ct16), sl16⟩)
    (c16 : PySem.W.codeIn K cd16 "_refuse_limit" = true)
    (k16 : PySem.W.keepIn K (.ref f16) = true)
    (a17 : PySem.W.nsIn K mainGlobals "_head_cells" = some (some (.ref f17)))
    (l17 : K.lookup f17 = some ⟨oc17, od17, .func (PySem.W.fnOf "_head_cells" "_head_cells" (defArgs s_head_cells) (defBody s_head_cells) (defScope s_head_cells) .none kV17 dc17 pm17 an17 cd17 ct17), sl17⟩)
    (c17 : PySem.W.codeIn K cd17 "_head_cells" = true)
    (k17 : PySem.W.keepIn K (.ref f17) = true)
    (a18 : PySem.W.nsIn K mainGlobals "_note" = some (some (.ref f18)))
    (l18 : K.lookup f18 = some ⟨oc18, od18, .func (PySem.W.fnOf "_note" "_note" (defArgs s_note) (defBody s_note) (defScope s_note) .none kV18 dc18 pm18 an18 cd18 ct18), sl18⟩)
    (c18 : PySem.W.codeIn K cd18 "_note" = true)
    (k18 : PySem.W.keepIn K (.ref f18) = true)
    (a19 : PySem.W.nsIn K mainGlobals "_are_near" = some (some (.ref f19)))
    (l19 : K.lookup f19 = some ⟨oc19, od19, .func (PySem.W.fnOf "_are_near" "_are_near" (defArgs s_are_near) (defBody s_are_near) (defScope s_are_near) .none kV19 dc19 pm19 an19 cd19 ct19), sl19⟩)
    (c19 : PySem.W.codeIn K cd19 "_are_near" = true)
    (k19 : PySem.W.keepIn K (.ref f19) = true)
    (a20 : PySem.W.nsIn K mainGlobals "_are_same" = some (some (.ref f20)))
    (l20 : K.lookup f20 = some ⟨oc20, od20, .func (PySem.W.fnOf "_are_same" "_are_same" (defArgs s_are_same) (defBody s_are_same) (defScope s_are_same) .none kV20 dc20 pm20 an20 cd20 ct20), sl20⟩)
    (c20 : PySem.W.codeIn K cd20 "_are_same" = true)
    (k20 : PySem.W.keepIn K (.ref f20) = true)
    (a21 : PySem.W.nsIn K mainGlobals "_is_shift" = some (some (.ref f21)))
    (l21 : K.lookup f21 = some ⟨oc21, od21, .func (PySem.W.fnOf "_is_shift" "_is_shift" (defArgs s_is_shift) (defBody s_is_shift) (defScope s_is_shift) .none kV21 dc21 pm21 an21 cd21 ct21), sl21⟩)
    (c21 : PySem.W.codeIn K cd21 "_is_shift" = true)
    (k21 : PySem.W.keepIn K (.ref f21) = true)
    (a22 : PySem.W.nsIn K mainGlobals "_named" = some (some (.ref f22)))
    (l22 : K.lookup f22 = some ⟨oc22, od22, .func (PySem.W.fnOf "_named" "_named" (defArgs s_named) (defBody s_named) (defScope s_named) .none kV22 dc22 pm22 an22 cd22 ct22), sl22⟩)
    (c22 : PySem.W.codeIn K cd22 "_named" = true)
    (k22 : PySem.W.keepIn K (.ref f22) = true)
    (a23 : PySem.W.nsIn K mainGlobals "_found_shift" = some (some (.ref f23)))
    (l23 : K.lookup f23 = some ⟨oc23, od23, .func (PySem.W.fnOf "_found_shift" "_found_shift" (defArgs s_found_shift) (defBody s_found_shift) (defScope s_found_shift) .none kV23 dc23 pm23 an23 cd23 ct23), sl23⟩)
    (c23 : PySem.W.codeIn K cd23 "_found_shift" = true)
    (k23 : PySem.W.keepIn K (.ref f23) = true)
    (a24 : PySem.W.nsIn K mainGlobals "_is_growth" = some (some (.ref f24)))
    (l24 : K.lookup f24 = some ⟨oc24, od24, .func (PySem.W.fnOf "_is_growth" "_is_growth" (defArgs s_is_growth) (defBody s_is_growth) (defScope s_is_growth) .none kV24 dc24 pm24 an24 cd24 ct24), sl24⟩)
    (c24 : PySem.W.codeIn K cd24 "_is_growth" = true)
    (k24 : PySem.W.keepIn K (.ref f24) = true)
    (a25 : PySem.W.nsIn K mainGlobals "_found_growth" = some (some (.ref f25)))
    (l25 : K.lookup f25 = some ⟨oc25, od25, .func (PySem.W.fnOf "_found_growth" "_found_growth" (defArgs s_found_growth) (defBody s_found_growth) (defScope s_found_growth) .none kV25 dc25 pm25 an25 cd25 ct25), sl25⟩)
    (c25 : PySem.W.codeIn K cd25 "_found_growth" = true)
    (k25 : PySem.W.keepIn K (.ref f25) = true)
    (a26 : PySem.W.nsIn K mainGlobals "_found" = some (some (.ref f26)))
    (l26 : K.lookup f26 = some ⟨oc26, od26, .func (PySem.W.fnOf "_found" "_found" (defArgs s_found) (defBody s_found) (defScope s_found) .none kV26 dc26 pm26 an26 cd26 ct26), sl26⟩)
    (c26 : PySem.W.codeIn K cd26 "_found" = true)
    (k26 : PySem.W.keepIn K (.ref f26) = true)
    (a27 : PySem.W.nsIn K mainGlobals "judge" = some (some (.ref f27)))
    (l27 : K.lookup f27 = some ⟨oc27, od27, .func (PySem.W.fnOf "judge" "judge" (defArgs s_judge) (defBody s_judge) (defScope s_judge) .none kV27 dc27 pm27 an27 cd27 ct27), sl27⟩)
    (c27 : PySem.W.codeIn K cd27 "judge" = true)
    (k27 : PySem.W.keepIn K (.ref f27) = true)
    (a28 : PySem.W.nsIn K mainGlobals "power" = some (some (.ref f28)))
    (l28 : K.lookup f28 = some ⟨oc28, od28, .func (PySem.W.fnOf "power" "power" (defArgs s_power) (defBody s_power) (defScope s_power) .none kV28 dc28 pm28 an28 cd28 ct28), sl28⟩)
    (c28 : PySem.W.codeIn K cd28 "power" = true)
    (k28 : PySem.W.keepIn K (.ref f28) = true)
    (a29 : PySem.W.nsIn K mainGlobals "_refuse_states" = some (some (.ref f29)))
    (l29 : K.lookup f29 = some ⟨oc29, od29, .func (PySem.W.fnOf "_refuse_states" "_refuse_states" (defArgs s_refuse_states) (defBody s_refuse_states) (defScope s_refuse_states) .none kV29 dc29 pm29 an29 cd29 ct29), sl29⟩)
    (c29 : PySem.W.codeIn K cd29 "_refuse_states" = true)
    (k29 : PySem.W.keepIn K (.ref f29) = true)
    (a30 : PySem.W.nsIn K mainGlobals "_entry_count" = some (some (.ref f30)))
    (l30 : K.lookup f30 = some ⟨oc30, od30, .func (PySem.W.fnOf "_entry_count" "_entry_count" (defArgs s_entry_count) (defBody s_entry_count) (defScope s_entry_count) .none kV30 dc30 pm30 an30 cd30 ct30), sl30⟩)
    (c30 : PySem.W.codeIn K cd30 "_entry_count" = true)
    (k30 : PySem.W.keepIn K (.ref f30) = true)
    (a31 : PySem.W.nsIn K mainGlobals "machine_count" = some (some (.ref f31)))
    (l31 : K.lookup f31 = some ⟨oc31, od31, .func (PySem.W.fnOf "machine_count" "machine_count" (defArgs s_machine_count) (defBody s_machine_count) (defScope s_machine_count) .none kV31 dc31 pm31 an31 cd31 ct31), sl31⟩)
    (c31 : PySem.W.codeIn K cd31 "machine_count" = true)
    (k31 : PySem.W.keepIn K (.ref f31) = true)
    (a32 : PySem.W.nsIn K mainGlobals "_refuse_index" = some (some (.ref f32)))
    (l32 : K.lookup f32 = some ⟨oc32, od32, .func (PySem.W.fnOf "_refuse_index" "_refuse_index" (defArgs s_refuse_index) (defBody s_refuse_index) (defScope s_refuse_index) .none kV32 dc32 pm32 an32 cd32 ct32), sl32⟩)
    (c32 : PySem.W.codeIn K cd32 "_refuse_index" = true)
    (k32 : PySem.W.keepIn K (.ref f32) = true)
    (a33 : PySem.W.nsIn K mainGlobals "_rule" = some (some (.ref f33)))
    (l33 : K.lookup f33 = some ⟨oc33, od33, .func (PySem.W.fnOf "_rule" "_rule" (defArgs s_rule) (defBody s_rule) (defScope s_rule) .none kV33 dc33 pm33 an33 cd33 ct33), sl33⟩)
    (c33 : PySem.W.codeIn K cd33 "_rule" = true)
    (k33 : PySem.W.keepIn K (.ref f33) = true)
    (a34 : PySem.W.nsIn K mainGlobals "machine_at" = some (some (.ref f34)))
    (l34 : K.lookup f34 = some ⟨oc34, od34, .func (PySem.W.fnOf "machine_at" "machine_at" (defArgs s_machine_at) (defBody s_machine_at) (defScope s_machine_at) .none kV34 dc34 pm34 an34 cd34 ct34), sl34⟩)
    (c34 : PySem.W.codeIn K cd34 "machine_at" = true)
    (k34 : PySem.W.keepIn K (.ref f34) = true)
    (a35 : PySem.W.nsIn K mainGlobals "_greater" = some (some (.ref f35)))
    (l35 : K.lookup f35 = some ⟨oc35, od35, .func (PySem.W.fnOf "_greater" "_greater" (defArgs s_greater) (defBody s_greater) (defScope s_greater) .none kV35 dc35 pm35 an35 cd35 ct35), sl35⟩)
    (c35 : PySem.W.codeIn K cd35 "_greater" = true)
    (k35 : PySem.W.keepIn K (.ref f35) = true)
    (a36 : PySem.W.nsIn K mainGlobals "census" = some (some (.ref f36)))
    (l36 : K.lookup f36 = some ⟨oc36, od36, .func (PySem.W.fnOf "census" "census" (defArgs s_census) (defBody s_census) (defScope s_census) .none kV36 dc36 pm36 an36 cd36 ct36), sl36⟩)
    (c36 : PySem.W.codeIn K cd36 "census" = true)
    (k36 : PySem.W.keepIn K (.ref f36) = true)
    (a37 : PySem.W.nsIn K mainGlobals "_law_cell" = some (some (.ref f37)))
    (l37 : K.lookup f37 = some ⟨oc37, od37, .func (PySem.W.fnOf "_law_cell" "_law_cell" (defArgs s_law_cell) (defBody s_law_cell) (defScope s_law_cell) .none kV37 dc37 pm37 an37 cd37 ct37), sl37⟩)
    (c37 : PySem.W.codeIn K cd37 "_law_cell" = true)
    (k37 : PySem.W.keepIn K (.ref f37) = true)
    (a38 : PySem.W.nsIn K mainGlobals "_law_draws" = some (some (.ref f38)))
    (l38 : K.lookup f38 = some ⟨oc38, od38, .func (PySem.W.fnOf "_law_draws" "_law_draws" (defArgs s_law_draws) (defBody s_law_draws) (defScope s_law_draws) .none kV38 dc38 pm38 an38 cd38 ct38), sl38⟩)
    (c38 : PySem.W.codeIn K cd38 "_law_draws" = true)
    (k38 : PySem.W.keepIn K (.ref f38) = true)
    (a39 : PySem.W.nsIn K mainGlobals "_law_like" = some (some (.ref f39)))
    (l39 : K.lookup f39 = some ⟨oc39, od39, .func (PySem.W.fnOf "_law_like" "_law_like" (defArgs s_law_like) (defBody s_law_like) (defScope s_law_like) .none kV39 dc39 pm39 an39 cd39 ct39), sl39⟩)
    (c39 : PySem.W.codeIn K cd39 "_law_like" = true)
    (k39 : PySem.W.keepIn K (.ref f39) = true)
    (a40 : PySem.W.nsIn K mainGlobals "_law_strip" = some (some (.ref f40)))
    (l40 : K.lookup f40 = some ⟨oc40, od40, .func (PySem.W.fnOf "_law_strip" "_law_strip" (defArgs s_law_strip) (defBody s_law_strip) (defScope s_law_strip) .none kV40 dc40 pm40 an40 cd40 ct40), sl40⟩)
    (c40 : PySem.W.codeIn K cd40 "_law_strip" = true)
    (k40 : PySem.W.keepIn K (.ref f40) = true)
    (a41 : PySem.W.nsIn K mainGlobals "_law_turing_step" = some (some (.ref f41)))
    (l41 : K.lookup f41 = some ⟨oc41, od41, .func (PySem.W.fnOf "_law_turing_step" "_law_turing_step" (defArgs s_law_turing_step) (defBody s_law_turing_step) (defScope s_law_turing_step) .none kV41 dc41 pm41 an41 cd41 ct41), sl41⟩)
    (c41 : PySem.W.codeIn K cd41 "_law_turing_step" = true)
    (k41 : PySem.W.keepIn K (.ref f41) = true)
    (a42 : PySem.W.nsIn K mainGlobals "_law_table" = some (some (.ref f42)))
    (l42 : K.lookup f42 = some ⟨oc42, od42, .func (PySem.W.fnOf "_law_table" "_law_table" (defArgs s_law_table) (defBody s_law_table) (defScope s_law_table) .none kV42 dc42 pm42 an42 cd42 ct42), sl42⟩)
    (c42 : PySem.W.codeIn K cd42 "_law_table" = true)
    (k42 : PySem.W.keepIn K (.ref f42) = true)
    (a43 : PySem.W.nsIn K mainGlobals "_law_registers_step" = some (some (.ref f43)))
    (l43 : K.lookup f43 = some ⟨oc43, od43, .func (PySem.W.fnOf "_law_registers_step" "_law_registers_step" (defArgs s_law_registers_step) (defBody s_law_registers_step) (defScope s_law_registers_step) .none kV43 dc43 pm43 an43 cd43 ct43), sl43⟩)
    (c43 : PySem.W.codeIn K cd43 "_law_registers_step" = true)
    (k43 : PySem.W.keepIn K (.ref f43) = true)
    (a44 : PySem.W.nsIn K mainGlobals "_law_own_run" = some (some (.ref f44)))
    (l44 : K.lookup f44 = some ⟨oc44, od44, .func (PySem.W.fnOf "_law_own_run" "_law_own_run" (defArgs s_law_own_run) (defBody s_law_own_run) (defScope s_law_own_run) .none kV44 dc44 pm44 an44 cd44 ct44), sl44⟩)
    (c44 : PySem.W.codeIn K cd44 "_law_own_run" = true)
    (k44 : PySem.W.keepIn K (.ref f44) = true)
    (a45 : PySem.W.nsIn K mainGlobals "_law_places" = some (some (.ref f45)))
    (l45 : K.lookup f45 = some ⟨oc45, od45, .func (PySem.W.fnOf "_law_places" "_law_places" (defArgs s_law_places) (defBody s_law_places) (defScope s_law_places) .none kV45 dc45 pm45 an45 cd45 ct45), sl45⟩)
    (c45 : PySem.W.codeIn K cd45 "_law_places" = true)
    (k45 : PySem.W.keepIn K (.ref f45) = true)
    (a46 : PySem.W.nsIn K mainGlobals "_law_symbol_at" = some (some (.ref f46)))
    (l46 : K.lookup f46 = some ⟨oc46, od46, .func (PySem.W.fnOf "_law_symbol_at" "_law_symbol_at" (defArgs s_law_symbol_at) (defBody s_law_symbol_at) (defScope s_law_symbol_at) .none kV46 dc46 pm46 an46 cd46 ct46), sl46⟩)
    (c46 : PySem.W.codeIn K cd46 "_law_symbol_at" = true)
    (k46 : PySem.W.keepIn K (.ref f46) = true)
    (a47 : PySem.W.nsIn K mainGlobals "_law_right_paper" = some (some (.ref f47)))
    (l47 : K.lookup f47 = some ⟨oc47, od47, .func (PySem.W.fnOf "_law_right_paper" "_law_right_paper" (defArgs s_law_right_paper) (defBody s_law_right_paper) (defScope s_law_right_paper) .none kV47 dc47 pm47 an47 cd47 ct47), sl47⟩)
    (c47 : PySem.W.codeIn K cd47 "_law_right_paper" = true)
    (k47 : PySem.W.keepIn K (.ref f47) = true)
    (a48 : PySem.W.nsIn K mainGlobals "_law_sought" = some (some (.ref f48)))
    (l48 : K.lookup f48 = some ⟨oc48, od48, .func (PySem.W.fnOf "_law_sought" "_law_sought" (defArgs s_law_sought) (defBody s_law_sought) (defScope s_law_sought) .none kV48 dc48 pm48 an48 cd48 ct48), sl48⟩)
    (c48 : PySem.W.codeIn K cd48 "_law_sought" = true)
    (k48 : PySem.W.keepIn K (.ref f48) = true)
    (a49 : PySem.W.nsIn K mainGlobals "_law_bad" = some (some (.ref f49)))
    (l49 : K.lookup f49 = some ⟨oc49, od49, .func (PySem.W.fnOf "_law_bad" "_law_bad" (defArgs s_law_bad) (defBody s_law_bad) (defScope s_law_bad) .none kV49 dc49 pm49 an49 cd49 ct49), sl49⟩)
    (c49 : PySem.W.codeIn K cd49 "_law_bad" = true)
    (k49 : PySem.W.keepIn K (.ref f49) = true)
    (a50 : PySem.W.nsIn K mainGlobals "_law_entries" = some (some (.ref f50)))
    (l50 : K.lookup f50 = some ⟨oc50, od50, .func (PySem.W.fnOf "_law_entries" "_law_entries" (defArgs s_law_entries) (defBody s_law_entries) (defScope s_law_entries) .none kV50 dc50 pm50 an50 cd50 ct50), sl50⟩)
    (c50 : PySem.W.codeIn K cd50 "_law_entries" = true)
    (k50 : PySem.W.keepIn K (.ref f50) = true)
    (a51 : PySem.W.nsIn K mainGlobals "law" = some (some (.ref f51)))
    (l51 : K.lookup f51 = some ⟨oc51, od51, .func (PySem.W.fnOf "law" "law" (defArgs s_law) (defBody s_law) (defScope s_law) .none kV51 dc51 pm51 an51 cd51 ct51), sl51⟩)
    (c51 : PySem.W.codeIn K cd51 "law" = true)
    (k51 : PySem.W.keepIn K (.ref f51) = true)
    (z_abs : PySem.W.nsIn K mainGlobals "abs" = some none)
    (z_all : PySem.W.nsIn K mainGlobals "all" = some none)
    (z_bool : PySem.W.nsIn K mainGlobals "bool" = some none)
    (z_divmod : PySem.W.nsIn K mainGlobals "divmod" = some none)
    (z_enumerate : PySem.W.nsIn K mainGlobals "enumerate" = some none)
    (z_int : PySem.W.nsIn K mainGlobals "int" = some none)
    (z_isinstance : PySem.W.nsIn K mainGlobals "isinstance" = some none)
    (z_len : PySem.W.nsIn K mainGlobals "len" = some none)
    (z_list : PySem.W.nsIn K mainGlobals "list" = some none)
    (z_max : PySem.W.nsIn K mainGlobals "max" = some none)
    (z_min : PySem.W.nsIn K mainGlobals "min" = some none)
    (z_range : PySem.W.nsIn K mainGlobals "range" = some none)
    (z_reversed : PySem.W.nsIn K mainGlobals "reversed" = some none)
    (z_sorted : PySem.W.nsIn K mainGlobals "sorted" = some none)
    (z_str : PySem.W.nsIn K mainGlobals "str" = some none)
    (z_tuple : PySem.W.nsIn K mainGlobals "tuple" = some none)
    (z_zip : PySem.W.nsIn K mainGlobals "zip" = some none)
    (m_MOST_REGISTERS : PySem.W.nsIn K mainGlobals "MOST_REGISTERS" = some (some (.int 2000 t_MOST_REGISTERS)))
    (m_MOST_INSTRUCTIONS : PySem.W.nsIn K mainGlobals "MOST_INSTRUCTIONS" = some (some (.int 100000 t_MOST_INSTRUCTIONS)))
    (m_MOST_STATES_turing : PySem.W.nsIn K mainGlobals "MOST_STATES_turing" = some (some (.int 20000 t_MOST_STATES_turing)))
    (m_MOST_SYMBOLS : PySem.W.nsIn K mainGlobals "MOST_SYMBOLS" = some (some (.int 400 t_MOST_SYMBOLS)))
    (m_BLANK : PySem.W.nsIn K mainGlobals "BLANK" = some (some (.int 0 t_BLANK)))
    (m_GREATEST_LIMIT : PySem.W.nsIn K mainGlobals "GREATEST_LIMIT" = some (some (.int 300 t_GREATEST_LIMIT)))
    (m_MOST_STATES_census : PySem.W.nsIn K mainGlobals "MOST_STATES_census" = some (some (.int 6 t_MOST_STATES_census)))
    (m_MOST_MACHINES : PySem.W.nsIn K mainGlobals "MOST_MACHINES" = some (some (.int 2000 t_MOST_MACHINES)))
    (m_MARK : PySem.W.nsIn K mainGlobals "MARK" = some (some (.int 1 t_MARK))) :
    ∃ fd : FuncData, (∀ (s : Shared) (u : Value), BindsTo s fd ⟨[u], []⟩ [("script", u)]) ∧ ∀ base : Heap, K.In base → base.Ns mainGlobals mg → FnOk l.prog w K mg base CX0 9 fa fd ["script"] (spLaw K) := by
  have e := hfa.symm.trans (PySem.W.mg_of X G a51)
  cases e
  have T : Txt K w mg C_Turing C_Registers C_InvalidMachine C_BadArgument := { g_Turing := PySem.W.mg_of X G g_Turing, g_Registers := PySem.W.mg_of X G g_Registers, g_InvalidMachine := PySem.W.mg_of X G g_InvalidMachine, g_BadArgument := PySem.W.mg_of X G g_BadArgument, na_Turing_states := na_Turing_states, na_Turing_symbols := na_Turing_symbols, na_Turing_rules := na_Turing_rules, na_Turing__rules_at := na_Turing__rules_at, cls_Turing := ⟨pg_Turing, hd_Turing, po_Turing, sa_Turing⟩, na_Registers_count := na_Registers_count, na_Registers_instructions := na_Registers_instructions, cls_Registers := ⟨pg_Registers, hd_Registers, po_Registers, sa_Registers⟩, e_InvalidMachine := ⟨PySem.W.mg_of X G g_InvalidMachine, kp_InvalidMachine, ex_InvalidMachine, sb_InvalidMachine, ty_InvalidMachine, hd_InvalidMachine, sf_InvalidMachine, ⟨ga_InvalidMachine, gg_InvalidMachine, sb_InvalidMachine, hd_InvalidMachine, ha_InvalidMachine, hn0, ht0, hm_InvalidMachine⟩⟩, e_BadArgument := ⟨PySem.W.mg_of X G g_BadArgument, kp_BadArgument, ex_BadArgument, sb_BadArgument, ty_BadArgument, hd_BadArgument, sf_BadArgument, ⟨ga_BadArgument, gg_BadArgument, sb_BadArgument, hd_BadArgument, ha_BadArgument, hn0, ht0, hm_BadArgument⟩⟩, ki_Turing_Registers := kit_ki_Turing_Registers, ki_Registers_Turing := kit_ki_Registers_Turing, n_abs := PySem.W.mg_none_of X G z_abs, n_all := PySem.W.mg_none_of X G z_all, n_bool := PySem.W.mg_none_of X G z_bool, n_divmod := PySem.W.mg_none_of X G z_divmod, n_enumerate := PySem.W.mg_none_of X G z_enumerate, n_int := PySem.W.mg_none_of X G z_int, n_isinstance := PySem.W.mg_none_of X G z_isinstance, n_len := PySem.W.mg_none_of X G z_len, n_list := PySem.W.mg_none_of X G z_list, n_max := PySem.W.mg_none_of X G z_max, n_min := PySem.W.mg_none_of X G z_min, n_range := PySem.W.mg_none_of X G z_range, n_reversed := PySem.W.mg_none_of X G z_reversed, n_sorted := PySem.W.mg_none_of X G z_sorted, n_str := PySem.W.mg_none_of X G z_str, n_tuple := PySem.W.mg_none_of X G z_tuple, n_zip := PySem.W.mg_none_of X G z_zip, m_MOST_REGISTERS := ⟨_, PySem.W.mg_of X G m_MOST_REGISTERS, ⟨_, rfl⟩⟩, m_MOST_INSTRUCTIONS := ⟨_, PySem.W.mg_of X G m_MOST_INSTRUCTIONS, ⟨_, rfl⟩⟩, m_MOST_STATES_turing := ⟨_, PySem.W.mg_of X G m_MOST_STATES_turing, ⟨_, rfl⟩⟩, m_MOST_SYMBOLS := ⟨_, PySem.W.mg_of X G m_MOST_SYMBOLS, ⟨_, rfl⟩⟩, m_BLANK := ⟨_, PySem.W.mg_of X G m_BLANK, ⟨_, rfl⟩⟩, m_GREATEST_LIMIT := ⟨_, PySem.W.mg_of X G m_GREATEST_LIMIT, ⟨_, rfl⟩⟩, m_MOST_STATES_census := ⟨_, PySem.W.mg_of X G m_MOST_STATES_census, ⟨_, rfl⟩⟩, m_MOST_MACHINES := ⟨_, PySem.W.mg_of X G m_MOST_MACHINES, ⟨_, rfl⟩⟩, m_MARK := ⟨_, PySem.W.mg_of X G m_MARK, ⟨_, rfl⟩⟩ }
  exact ⟨PySem.W.fnOf "law" "law" (defArgs s_law) (defBody s_law) (defScope s_law) .none kV51 dc51 pm51 an51 cd51 ct51, fun s u => .of_eq rfl, fun base _ _ => ok_main T ⟨_, _, L2.fun_mk (st := s_refuse_negative) l0 c0 k0, PySem.W.mg_of X G a0⟩ ⟨_, _, L2.fun_mk (st := s_after) l1 c1 k1, PySem.W.mg_of X G a1⟩ ⟨_, _, L2.fun_mk (st := s_history) l2 c2 k2, PySem.W.mg_of X G a2⟩ ⟨_, _, L2.fun_mk (st := s_names_what_is_there) l3 c3 k3, PySem.W.mg_of X G a3⟩ ⟨_, _, ⟨mk_Registers, a4, n4, kp_Registers⟩, L2.fun_mk (st := s_Registers_init) l4 c4 k4⟩ ⟨_, _, ⟨⟨pg_Registers, hd_Registers, po_Registers, sa_Registers⟩, a5, n5, ⟨_, _, _, _, _, _, _, _, _, _, _, _, _, _, _, xl5, xn5, xe5, xx5⟩, ha_Registers, hn0, ht0, hm_Registers⟩, L2.fun_mk (st := s_Registers_eq) l5 c5 k5⟩ ⟨_, _, L2.fun_mk (st := s_changed) l6 c6 k6, PySem.W.mg_of X G a6⟩ ⟨_, _, ⟨a7, n7, k7⟩, L2.fun_mk (st := s_Registers_step) l7 c7 k7⟩ ⟨_, _, L2.fun_mk (st := s_are_rules) l8 c8 k8, PySem.W.mg_of X G a8⟩ ⟨_, _, ⟨mk_Turing, a9, n9, kp_Turing⟩, L2.fun_mk (st := s_Turing_init) l9 c9 k9⟩ ⟨_, _, ⟨⟨pg_Turing, hd_Turing, po_Turing, sa_Turing⟩, a10, n10, ⟨_, _, _, _, _, _, _, _, _, _, _, _, _, _, _, xl10, xn10, xe10, xx10⟩, ha_Turing, hn0, ht0, hm_Turing⟩, L2.fun_mk (st := s_Turing_eq) l10 c10 k10⟩ ⟨_, _, ⟨a11, n11, k11⟩, L2.fun_mk (st := s_Turing_step) l11 c11 k11⟩ ⟨_, _, ⟨a12, n12, k12⟩, L2.fun_mk (st := s_Turing_rule) l12 c12 k12⟩ ⟨_, _, L2.fun_mk (st := s_without_end_blanks) l13 c13 k13, PySem.W.mg_of X G a13⟩ ⟨_, _, L2.fun_mk (st := s_start) l14 c14 k14, PySem.W.mg_of X G a14⟩ ⟨_, _, L2.fun_mk (st := s_content) l15 c15 k15, PySem.W.mg_of X G a15⟩ ⟨_, _, L2.fun_mk (st := s_refuse_limit) l16 c16 k16, PySem.W.mg_of X G a16⟩ ⟨_, _, L2.fun_mk (st := s_head_cells) l17 c17 k17, PySem.W.mg_of X G a17⟩ ⟨_, _, L2.fun_mk (st := s_note) l18 c18 k18, PySem.W.mg_of X G a18⟩ ⟨_, _, L2.fun_mk (st := s_are_near) l19 c19 k19, PySem.W.mg_of X G a19⟩ ⟨_, _, L2.fun_mk (st := s_are_same) l20 c20 k20, PySem.W.mg_of X G a20⟩ ⟨_, _, L2.fun_mk (st := s_is_shift) l21 c21 k21, PySem.W.mg_of X G a21⟩ ⟨_, _, L2.fun_mk (st := s_named) l22 c22 k22, PySem.W.mg_of X G a22⟩ ⟨_, _, L2.fun_mk (st := s_found_shift) l23 c23 k23, PySem.W.mg_of X G a23⟩ ⟨_, _, L2.fun_mk (st := s_is_growth) l24 c24 k24, PySem.W.mg_of X G a24⟩ ⟨_, _, L2.fun_mk (st := s_found_growth) l25 c25 k25, PySem.W.mg_of X G a25⟩ ⟨_, _, L2.fun_mk (st := s_found) l26 c26 k26, PySem.W.mg_of X G a26⟩ ⟨_, _, L2.fun_mk (st := s_judge) l27 c27 k27, PySem.W.mg_of X G a27⟩ ⟨_, _, L2.fun_mk (st := s_power) l28 c28 k28, PySem.W.mg_of X G a28⟩ ⟨_, _, L2.fun_mk (st := s_refuse_states) l29 c29 k29, PySem.W.mg_of X G a29⟩ ⟨_, _, L2.fun_mk (st := s_entry_count) l30 c30 k30, PySem.W.mg_of X G a30⟩ ⟨_, _, L2.fun_mk (st := s_machine_count) l31 c31 k31, PySem.W.mg_of X G a31⟩ ⟨_, _, L2.fun_mk (st := s_refuse_index) l32 c32 k32, PySem.W.mg_of X G a32⟩ ⟨_, _, L2.fun_mk (st := s_rule) l33 c33 k33, PySem.W.mg_of X G a33⟩ ⟨_, _, L2.fun_mk (st := s_machine_at) l34 c34 k34, PySem.W.mg_of X G a34⟩ ⟨_, _, L2.fun_mk (st := s_greater) l35 c35 k35, PySem.W.mg_of X G a35⟩ ⟨_, _, L2.fun_mk (st := s_census) l36 c36 k36, PySem.W.mg_of X G a36⟩ ⟨_, _, L2.fun_mk (st := s_law_cell) l37 c37 k37, PySem.W.mg_of X G a37⟩ ⟨_, _, L2.fun_mk (st := s_law_draws) l38 c38 k38, PySem.W.mg_of X G a38⟩ ⟨_, _, L2.fun_mk (st := s_law_like) l39 c39 k39, PySem.W.mg_of X G a39⟩ ⟨_, _, L2.fun_mk (st := s_law_strip) l40 c40 k40, PySem.W.mg_of X G a40⟩ ⟨_, _, L2.fun_mk (st := s_law_turing_step) l41 c41 k41, PySem.W.mg_of X G a41⟩ ⟨_, _, L2.fun_mk (st := s_law_table) l42 c42 k42, PySem.W.mg_of X G a42⟩ ⟨_, _, L2.fun_mk (st := s_law_registers_step) l43 c43 k43, PySem.W.mg_of X G a43⟩ ⟨_, _, L2.fun_mk (st := s_law_own_run) l44 c44 k44, PySem.W.mg_of X G a44⟩ ⟨_, _, L2.fun_mk (st := s_law_places) l45 c45 k45, PySem.W.mg_of X G a45⟩ ⟨_, _, L2.fun_mk (st := s_law_symbol_at) l46 c46 k46, PySem.W.mg_of X G a46⟩ ⟨_, _, L2.fun_mk (st := s_law_right_paper) l47 c47 k47, PySem.W.mg_of X G a47⟩ ⟨_, _, L2.fun_mk (st := s_law_sought) l48 c48 k48, PySem.W.mg_of X G a48⟩ ⟨_, _, L2.fun_mk (st := s_law_bad) l49 c49 k49, PySem.W.mg_of X G a49⟩ ⟨_, _, L2.fun_mk (st := s_law_entries) l50 c50 k50, PySem.W.mg_of X G a50⟩ (L2.fun_mk (st := s_law) l51 c51 k51)⟩
/-! ### the head -/
theorem facts {w : World} {K : PySem.W.Frag} {h : Heap} {mg : Str → Option Value} {fa : Addr} (X : K.In h) (G : h.Ns mainGlobals mg) (hfa : mg "law" = some (.ref fa)) (c : Hd.Says FA w K) :
    ∃ fd : FuncData, (∀ (s : Shared) (u : Value), BindsTo s fd ⟨[u], []⟩ [("script", u)]) ∧ ∀ base : Heap, K.In base → base.Ns mainGlobals mg → FnOk PR w K mg base CX0 9 fa fd ["script"] (spLaw K) := by
  have y : exL K = true := c.more
  unfold exL at y
  obtain ⟨y0, y⟩ := He.ba y
  unfold ex0 at y0
  obtain ⟨z0, y0⟩ := He.ba y0
  have g_Turing := of_decide_eq_true z0
  obtain ⟨z1, y0⟩ := He.ba y0
  have g_Registers := of_decide_eq_true z1
  obtain ⟨z2, y0⟩ := He.ba y0
  have g_InvalidMachine := of_decide_eq_true z2
  obtain ⟨z3, y0⟩ := He.ba y0
  have g_BadArgument := of_decide_eq_true z3
  obtain ⟨z4, y0⟩ := He.ba y0
  have hn0 := of_decide_eq_true z4
  obtain ⟨z5, y0⟩ := He.ba y0
  have ht0 := of_decide_eq_true z5
  obtain ⟨z6, y0⟩ := He.ba y0
  have pg_Turing := of_decide_eq_true z6
  obtain ⟨z7, y0⟩ := He.ba y0
  have hd_Turing := of_decide_eq_true z7
  obtain ⟨z8, y0⟩ := He.ba y0
  have po_Turing := of_decide_eq_true z8
  obtain ⟨z9, y0⟩ := He.ba y0
  have sa_Turing := of_decide_eq_true z9
  obtain ⟨z10, y0⟩ := He.ba y0
  have mk_Turing := of_decide_eq_true z10
  obtain ⟨z11, y0⟩ := He.ba y0
  have kp_Turing := of_decide_eq_true z11
  obtain ⟨z12, y0⟩ := He.ba y0
  have na_Turing_states := of_decide_eq_true z12
  obtain ⟨z13, y0⟩ := He.ba y0
  have na_Turing_symbols := of_decide_eq_true z13
  obtain ⟨z14, y0⟩ := He.ba y0
  have na_Turing_rules := of_decide_eq_true z14
  obtain ⟨z15, y0⟩ := He.ba y0
  have na_Turing__rules_at := of_decide_eq_true z15
  obtain ⟨z16, y0⟩ := He.ba y0
  have ha_Turing := of_decide_eq_true z16
  obtain ⟨z17, y0⟩ := He.ba y0
  have hm_Turing := of_decide_eq_true z17
  obtain ⟨z18, y0⟩ := He.ba y0
  have pg_Registers := of_decide_eq_true z18
  obtain ⟨z19, y0⟩ := He.ba y0
  have hd_Registers := of_decide_eq_true z19
  obtain ⟨y1, y⟩ := He.ba y
  unfold ex1 at y1
  obtain ⟨z20, y1⟩ := He.ba y1
  have po_Registers := of_decide_eq_true z20
  obtain ⟨z21, y1⟩ := He.ba y1
  have sa_Registers := of_decide_eq_true z21
  obtain ⟨z22, y1⟩ := He.ba y1
  have mk_Registers := of_decide_eq_true z22
  obtain ⟨z23, y1⟩ := He.ba y1
  have kp_Registers := of_decide_eq_true z23
  obtain ⟨z24, y1⟩ := He.ba y1
  have na_Registers_count := of_decide_eq_true z24
  obtain ⟨z25, y1⟩ := He.ba y1
  have na_Registers_instructions := of_decide_eq_true z25
  obtain ⟨z26, y1⟩ := He.ba y1
  have ha_Registers := of_decide_eq_true z26
  obtain ⟨z27, y1⟩ := He.ba y1
  have hm_Registers := of_decide_eq_true z27
  obtain ⟨z28, y1⟩ := He.ba y1
  have kp_InvalidMachine := of_decide_eq_true z28
  obtain ⟨z29, y1⟩ := He.ba y1
  have ex_InvalidMachine := of_decide_eq_true z29
  obtain ⟨z30, y1⟩ := He.ba y1
  have sb_InvalidMachine := of_decide_eq_true z30
  obtain ⟨z31, y1⟩ := He.ba y1
  have ty_InvalidMachine := of_decide_eq_true z31
  obtain ⟨z32, y1⟩ := He.ba y1
  have hd_InvalidMachine := of_decide_eq_true z32
  obtain ⟨z33, y1⟩ := He.ba y1
  have sf_InvalidMachine := of_decide_eq_true z33
  obtain ⟨z34, y1⟩ := He.ba y1
  have ga_InvalidMachine := of_decide_eq_true z34
  obtain ⟨z35, y1⟩ := He.ba y1
  have gg_InvalidMachine := of_decide_eq_true z35
  obtain ⟨z36, y1⟩ := He.ba y1
  have ha_InvalidMachine := of_decide_eq_true z36
  obtain ⟨z37, y1⟩ := He.ba y1
  have hm_InvalidMachine := of_decide_eq_true z37
  obtain ⟨z38, y1⟩ := He.ba y1
  have kp_BadArgument := of_decide_eq_true z38
  obtain ⟨z39, y1⟩ := He.ba y1
  have ex_BadArgument := of_decide_eq_true z39
  obtain ⟨y2, y⟩ := He.ba y
  unfold ex2 at y2
  obtain ⟨z40, y2⟩ := He.ba y2
  have sb_BadArgument := of_decide_eq_true z40
  obtain ⟨z41, y2⟩ := He.ba y2
  have ty_BadArgument := of_decide_eq_true z41
  obtain ⟨z42, y2⟩ := He.ba y2
  have hd_BadArgument := of_decide_eq_true z42
  obtain ⟨z43, y2⟩ := He.ba y2
  have sf_BadArgument := of_decide_eq_true z43
  obtain ⟨z44, y2⟩ := He.ba y2
  have ga_BadArgument := of_decide_eq_true z44
  obtain ⟨z45, y2⟩ := He.ba y2
  have gg_BadArgument := of_decide_eq_true z45
  obtain ⟨z46, y2⟩ := He.ba y2
  have ha_BadArgument := of_decide_eq_true z46
  obtain ⟨z47, y2⟩ := He.ba y2
  have hm_BadArgument := of_decide_eq_true z47
  obtain ⟨z48, y2⟩ := He.ba y2
  have kit_ki_Turing_Registers := of_decide_eq_true z48
  obtain ⟨z49, y2⟩ := He.ba y2
  have kit_ki_Registers_Turing := of_decide_eq_true z49
  obtain ⟨z50, y2⟩ := He.ba y2
  have a0 := of_decide_eq_true z50
  obtain ⟨z51, y2⟩ := He.ba y2
  have k0 := of_decide_eq_true z51
  obtain ⟨z52, y2⟩ := He.ba y2
  have a1 := of_decide_eq_true z52
  obtain ⟨z53, y2⟩ := He.ba y2
  have k1 := of_decide_eq_true z53
  obtain ⟨z54, y2⟩ := He.ba y2
  have a2 := of_decide_eq_true z54
  obtain ⟨z55, y2⟩ := He.ba y2
  have k2 := of_decide_eq_true z55
  obtain ⟨z56, y2⟩ := He.ba y2
  have a3 := of_decide_eq_true z56
  obtain ⟨z57, y2⟩ := He.ba y2
  have k3 := of_decide_eq_true z57
  obtain ⟨z58, y2⟩ := He.ba y2
  have a4 := of_decide_eq_true z58
  obtain ⟨z59, y2⟩ := He.ba y2
  have n4 := of_decide_eq_true z59
  obtain ⟨y3, y⟩ := He.ba y
  unfold ex3 at y3
  obtain ⟨z60, y3⟩ := He.ba y3
  have k4 := of_decide_eq_true z60
  obtain ⟨z61, y3⟩ := He.ba y3
  have a5 := of_decide_eq_true z61
  obtain ⟨z62, y3⟩ := He.ba y3
  have n5 := of_decide_eq_true z62
  obtain ⟨z63, y3⟩ := He.ba y3
  have k5 := of_decide_eq_true z63
  obtain ⟨z64, y3⟩ := He.ba y3
  obtain ⟨_, _, _, _, _, _, _, _, _, _, _, _, _, _, _, xl5, xn5, xe5, xx5⟩ := Hd.eqB_ok z64
  obtain ⟨z65, y3⟩ := He.ba y3
  have a6 := of_decide_eq_true z65
  obtain ⟨z66, y3⟩ := He.ba y3
  have k6 := of_decide_eq_true z66
  obtain ⟨z67, y3⟩ := He.ba y3
  have a7 := of_decide_eq_true z67
  obtain ⟨z68, y3⟩ := He.ba y3
  have n7 := of_decide_eq_true z68
  obtain ⟨z69, y3⟩ := He.ba y3
  have k7 := of_decide_eq_true z69
  obtain ⟨z70, y3⟩ := He.ba y3
  have a8 := of_decide_eq_true z70
  obtain ⟨z71, y3⟩ := He.ba y3
  have k8 := of_decide_eq_true z71
  obtain ⟨z72, y3⟩ := He.ba y3
  have a9 := of_decide_eq_true z72
  obtain ⟨z73, y3⟩ := He.ba y3
  have n9 := of_decide_eq_true z73
  obtain ⟨z74, y3⟩ := He.ba y3
  have k9 := of_decide_eq_true z74
  obtain ⟨z75, y3⟩ := He.ba y3
  have a10 := of_decide_eq_true z75
  obtain ⟨z76, y3⟩ := He.ba y3
  have n10 := of_decide_eq_true z76
  obtain ⟨z77, y3⟩ := He.ba y3
  have k10 := of_decide_eq_true z77
  obtain ⟨z78, y3⟩ := He.ba y3
  obtain ⟨_, _, _, _, _, _, _, _, _, _, _, _, _, _, _, xl10, xn10, xe10, xx10⟩ := Hd.eqB_ok z78
  obtain ⟨z79, y3⟩ := He.ba y3
  have a11 := of_decide_eq_true z79
  obtain ⟨y4, y⟩ := He.ba y
  unfold ex4 at y4
  obtain ⟨z80, y4⟩ := He.ba y4
  have n11 := of_decide_eq_true z80
  obtain ⟨z81, y4⟩ := He.ba y4
  have k11 := of_decide_eq_true z81
  obtain ⟨z82, y4⟩ := He.ba y4
  have a12 := of_decide_eq_true z82
  obtain ⟨z83, y4⟩ := He.ba y4
  have n12 := of_decide_eq_true z83
  obtain ⟨z84, y4⟩ := He.ba y4
  have k12 := of_decide_eq_true z84
  obtain ⟨z85, y4⟩ := He.ba y4
  have a13 := of_decide_eq_true z85
  obtain ⟨z86, y4⟩ := He.ba y4
  have k13 := of_decide_eq_true z86
  obtain ⟨z87, y4⟩ := He.ba y4
  have a14 := of_decide_eq_true z87
  obtain ⟨z88, y4⟩ := He.ba y4
  have k14 := of_decide_eq_true z88
  obtain ⟨z89, y4⟩ := He.ba y4
  have a15 := of_decide_eq_true z89
  obtain ⟨z90, y4⟩ := He.ba y4
  have k15 := of_decide_eq_true z90
  obtain ⟨z91, y4⟩ := He.ba y4
  have a16 := of_decide_eq_true z91
  obtain ⟨z92, y4⟩ := He.ba y4
  have k16 := of_decide_eq_true z92
  obtain ⟨z93, y4⟩ := He.ba y4
  have a17 := of_decide_eq_true z93
  obtain ⟨z94, y4⟩ := He.ba y4
  have k17 := of_decide_eq_true z94
  obtain ⟨z95, y4⟩ := He.ba y4
  have a18 := of_decide_eq_true z95
  obtain ⟨z96, y4⟩ := He.ba y4
  have k18 := of_decide_eq_true z96
  obtain ⟨z97, y4⟩ := He.ba y4
  have a19 := of_decide_eq_true z97
  obtain ⟨z98, y4⟩ := He.ba y4
  have k19 := of_decide_eq_true z98
  obtain ⟨z99, y4⟩ := He.ba y4
  have a20 := of_decide_eq_true z99
  obtain ⟨y5, y⟩ := He.ba y
  unfold ex5 at y5
  obtain ⟨z100, y5⟩ := He.ba y5
  have k20 := of_decide_eq_true z100
  obtain ⟨z101, y5⟩ := He.ba y5
  have a21 := of_decide_eq_true z101
  obtain ⟨z102, y5⟩ := He.ba y5
  have k21 := of_decide_eq_true z102
  obtain ⟨z103, y5⟩ := He.ba y5
  have a22 := of_decide_eq_true z103
  obtain ⟨z104, y5⟩ := He.ba y5
  have k22 := of_decide_eq_true z104
  obtain ⟨z105, y5⟩ := He.ba y5
  have a23 := of_decide_eq_true z105
  obtain ⟨z106, y5⟩ := He.ba y5
  have k23 := of_decide_eq_true z106
  obtain ⟨z107, y5⟩ := He.ba y5
  have a24 := of_decide_eq_true z107
  obtain ⟨z108, y5⟩ := He.ba y5
  have k24 := of_decide_eq_true z108
  obtain ⟨z109, y5⟩ := He.ba y5
  have a25 := of_decide_eq_true z109
  obtain ⟨z110, y5⟩ := He.ba y5
  have k25 := of_decide_eq_true z110
  obtain ⟨z111, y5⟩ := He.ba y5
  have a26 := of_decide_eq_true z111
  obtain ⟨z112, y5⟩ := He.ba y5
  have k26 := of_decide_eq_true z112
  obtain ⟨z113, y5⟩ := He.ba y5
  have a27 := of_decide_eq_true z113
  obtain ⟨z114, y5⟩ := He.ba y5
  have k27 := of_decide_eq_true z114
  obtain ⟨z115, y5⟩ := He.ba y5
  have a28 := of_decide_eq_true z115
  obtain ⟨z116, y5⟩ := He.ba y5
  have k28 := of_decide_eq_true z116
  obtain ⟨z117, y5⟩ := He.ba y5
  have a29 := of_decide_eq_true z117
  obtain ⟨z118, y5⟩ := He.ba y5
  have k29 := of_decide_eq_true z118
  obtain ⟨z119, y5⟩ := He.ba y5
  have a30 := of_decide_eq_true z119
  obtain ⟨y6, y⟩ := He.ba y
  unfold ex6 at y6
  obtain ⟨z120, y6⟩ := He.ba y6
  have k30 := of_decide_eq_true z120
  obtain ⟨z121, y6⟩ := He.ba y6
  have a31 := of_decide_eq_true z121
  obtain ⟨z122, y6⟩ := He.ba y6
  have k31 := of_decide_eq_true z122
  obtain ⟨z123, y6⟩ := He.ba y6
  have a32 := of_decide_eq_true z123
  obtain ⟨z124, y6⟩ := He.ba y6
  have k32 := of_decide_eq_true z124
  obtain ⟨z125, y6⟩ := He.ba y6
  have a33 := of_decide_eq_true z125
  obtain ⟨z126, y6⟩ := He.ba y6
  have k33 := of_decide_eq_true z126
  obtain ⟨z127, y6⟩ := He.ba y6
  have a34 := of_decide_eq_true z127
  obtain ⟨z128, y6⟩ := He.ba y6
  have k34 := of_decide_eq_true z128
  obtain ⟨z129, y6⟩ := He.ba y6
  have a35 := of_decide_eq_true z129
  obtain ⟨z130, y6⟩ := He.ba y6
  have k35 := of_decide_eq_true z130
  obtain ⟨z131, y6⟩ := He.ba y6
  have a36 := of_decide_eq_true z131
  obtain ⟨z132, y6⟩ := He.ba y6
  have k36 := of_decide_eq_true z132
  obtain ⟨z133, y6⟩ := He.ba y6
  have a37 := of_decide_eq_true z133
  obtain ⟨z134, y6⟩ := He.ba y6
  have k37 := of_decide_eq_true z134
  obtain ⟨z135, y6⟩ := He.ba y6
  have a38 := of_decide_eq_true z135
  obtain ⟨z136, y6⟩ := He.ba y6
  have k38 := of_decide_eq_true z136
  obtain ⟨z137, y6⟩ := He.ba y6
  have a39 := of_decide_eq_true z137
  obtain ⟨z138, y6⟩ := He.ba y6
  have k39 := of_decide_eq_true z138
  obtain ⟨z139, y6⟩ := He.ba y6
  have a40 := of_decide_eq_true z139
  obtain ⟨y7, y⟩ := He.ba y
  unfold ex7 at y7
  obtain ⟨z140, y7⟩ := He.ba y7
  have k40 := of_decide_eq_true z140
  obtain ⟨z141, y7⟩ := He.ba y7
  have a41 := of_decide_eq_true z141
  obtain ⟨z142, y7⟩ := He.ba y7
  have k41 := of_decide_eq_true z142
  obtain ⟨z143, y7⟩ := He.ba y7
  have a42 := of_decide_eq_true z143
  obtain ⟨z144, y7⟩ := He.ba y7
  have k42 := of_decide_eq_true z144
  obtain ⟨z145, y7⟩ := He.ba y7
  have a43 := of_decide_eq_true z145
  obtain ⟨z146, y7⟩ := He.ba y7
  have k43 := of_decide_eq_true z146
  obtain ⟨z147, y7⟩ := He.ba y7
  have a44 := of_decide_eq_true z147
  obtain ⟨z148, y7⟩ := He.ba y7
  have k44 := of_decide_eq_true z148
  obtain ⟨z149, y7⟩ := He.ba y7
  have a45 := of_decide_eq_true z149
  obtain ⟨z150, y7⟩ := He.ba y7
  have k45 := of_decide_eq_true z150
  obtain ⟨z151, y7⟩ := He.ba y7
  have a46 := of_decide_eq_true z151
  obtain ⟨z152, y7⟩ := He.ba y7
  have k46 := of_decide_eq_true z152
  obtain ⟨z153, y7⟩ := He.ba y7
  have a47 := of_decide_eq_true z153
  obtain ⟨z154, y7⟩ := He.ba y7
  have k47 := of_decide_eq_true z154
  obtain ⟨z155, y7⟩ := He.ba y7
  have a48 := of_decide_eq_true z155
  obtain ⟨z156, y7⟩ := He.ba y7
  have k48 := of_decide_eq_true z156
  obtain ⟨z157, y7⟩ := He.ba y7
  have a49 := of_decide_eq_true z157
  obtain ⟨z158, y7⟩ := He.ba y7
  have k49 := of_decide_eq_true z158
  obtain ⟨z159, y7⟩ := He.ba y7
  have a50 := of_decide_eq_true z159
  obtain ⟨y8, y⟩ := He.ba y
  unfold ex8 at y8
  obtain ⟨z160, y8⟩ := He.ba y8
  have k50 := of_decide_eq_true z160
  obtain ⟨z161, y8⟩ := He.ba y8
  have a51 := of_decide_eq_true z161
  obtain ⟨z162, y8⟩ := He.ba y8
  have k51 := of_decide_eq_true z162
  obtain ⟨z163, y8⟩ := He.ba y8
  have z_abs := of_decide_eq_true z163
  obtain ⟨z164, y8⟩ := He.ba y8
  have z_all := of_decide_eq_true z164
  obtain ⟨z165, y8⟩ := He.ba y8
  have z_bool := of_decide_eq_true z165
  obtain ⟨z166, y8⟩ := He.ba y8
  have z_divmod := of_decide_eq_true z166
  obtain ⟨z167, y8⟩ := He.ba y8
  have z_enumerate := of_decide_eq_true z167
  obtain ⟨z168, y8⟩ := He.ba y8
  have z_int := of_decide_eq_true z168
  obtain ⟨z169, y8⟩ := He.ba y8
  have z_isinstance := of_decide_eq_true z169
  obtain ⟨z170, y8⟩ := He.ba y8
  have z_len := of_decide_eq_true z170
  obtain ⟨z171, y8⟩ := He.ba y8
  have z_list := of_decide_eq_true z171
  obtain ⟨z172, y8⟩ := He.ba y8
  have z_max := of_decide_eq_true z172
  obtain ⟨z173, y8⟩ := He.ba y8
  have z_min := of_decide_eq_true z173
  obtain ⟨z174, y8⟩ := He.ba y8
  have z_range := of_decide_eq_true z174
  obtain ⟨z175, y8⟩ := He.ba y8
  have z_reversed := of_decide_eq_true z175
  obtain ⟨z176, y8⟩ := He.ba y8
  have z_sorted := of_decide_eq_true z176
  obtain ⟨z177, y8⟩ := He.ba y8
  have z_str := of_decide_eq_true z177
  obtain ⟨z178, y8⟩ := He.ba y8
  have z_tuple := of_decide_eq_true z178
  obtain ⟨z179, y8⟩ := He.ba y8
  have z_zip := of_decide_eq_true z179
  obtain ⟨y9, y⟩ := He.ba y
  unfold ex9 at y9
  obtain ⟨z180, y9⟩ := He.ba y9
  obtain ⟨t_MOST_REGISTERS, m_MOST_REGISTERS⟩ := Hd.intB_ok z180
  obtain ⟨z181, y9⟩ := He.ba y9
  obtain ⟨t_MOST_INSTRUCTIONS, m_MOST_INSTRUCTIONS⟩ := Hd.intB_ok z181
  obtain ⟨z182, y9⟩ := He.ba y9
  obtain ⟨t_MOST_STATES_turing, m_MOST_STATES_turing⟩ := Hd.intB_ok z182
  obtain ⟨z183, y9⟩ := He.ba y9
  obtain ⟨t_MOST_SYMBOLS, m_MOST_SYMBOLS⟩ := Hd.intB_ok z183
  obtain ⟨z184, y9⟩ := He.ba y9
  obtain ⟨t_BLANK, m_BLANK⟩ := Hd.intB_ok z184
  obtain ⟨z185, y9⟩ := He.ba y9
  obtain ⟨t_GREATEST_LIMIT, m_GREATEST_LIMIT⟩ := Hd.intB_ok z185
  obtain ⟨z186, y9⟩ := He.ba y9
  obtain ⟨t_MOST_STATES_census, m_MOST_STATES_census⟩ := Hd.intB_ok z186
  obtain ⟨z187, y9⟩ := He.ba y9
  obtain ⟨t_MOST_MACHINES, m_MOST_MACHINES⟩ := Hd.intB_ok z187
  obtain ⟨z188, y9⟩ := He.ba y9
  obtain ⟨t_MARK, m_MARK⟩ := Hd.intB_ok z188
  obtain ⟨oc0, od0, sl0, kV0, dc0, pm0, an0, cd0, ct0, l0, c0⟩ := c.def_ 0 (d := d0) rfl
  obtain ⟨oc1, od1, sl1, kV1, dc1, pm1, an1, cd1, ct1, l1, c1⟩ := c.def_ 1 (d := d1) rfl
  obtain ⟨oc2, od2, sl2, kV2, dc2, pm2, an2, cd2, ct2, l2, c2⟩ := c.def_ 2 (d := d2) rfl
  obtain ⟨oc3, od3, sl3, kV3, dc3, pm3, an3, cd3, ct3, l3, c3⟩ := c.def_ 3 (d := d3) rfl
  obtain ⟨oc4, od4, sl4, kV4, dc4, pm4, an4, cd4, ct4, l4, c4⟩ := c.def_ 4 (d := d4) rfl
  obtain ⟨oc5, od5, sl5, kV5, dc5, pm5, an5, cd5, ct5, l5, c5⟩ := c.def_ 5 (d := d5) rfl
  obtain ⟨oc6, od6, sl6, kV6, dc6, pm6, an6, cd6, ct6, l6, c6⟩ := c.def_ 6 (d := d6) rfl
  obtain ⟨oc7, od7, sl7, kV7, dc7, pm7, an7, cd7, ct7, l7, c7⟩ := c.def_ 7 (d := d7) rfl
  obtain ⟨oc8, od8, sl8, kV8, dc8, pm8, an8, cd8, ct8, l8, c8⟩ := c.def_ 8 (d := d8) rfl
  obtain ⟨oc9, od9, sl9, kV9, dc9, pm9, an9, cd9, ct9, l9, c9⟩ := c.def_ 9 (d := d9) rfl
  obtain ⟨oc10, od10, sl10, kV10, dc10, pm10, an10, cd10, ct10, l10, c10⟩ := c.def_ 10 (d := d10) rfl
  obtain ⟨oc11, od11, sl11, kV11, dc11, pm11, an11, cd11, ct11, l11, c11⟩ := c.def_ 11 (d := d11) rfl
  obtain ⟨oc12, od12, sl12, kV12, dc12, pm12, an12, cd12, ct12, l12, c12⟩ := c.def_ 12 (d := d12) rfl
  obtain ⟨oc13, od13, sl13, kV13, dc13, pm13, an13, cd13, ct13, l13, c13⟩ := c.def_ 13 (d := d13) rfl
  obtain ⟨oc14, od14, sl14, kV14, dc14, pm14, an14, cd14, ct14, l14, c14⟩ := c.def_ 14 (d := d14) rfl
  obtain ⟨oc15, od15, sl15, kV15, dc15, pm15, an15, cd15, ct15, l15, c15⟩ := c.def_ 15 (d := d15) rfl
  obtain ⟨oc16, od16, sl16, kV16, dc16, pm16, an16, cd16, ct16, l16, c16⟩ := c.def_ 16 (d := d16) rfl
  obtain ⟨oc17, od17, sl17, kV17, dc17, pm17, an17, cd17, ct17, l17, c17⟩ := c.def_ 17 (d := d17) rfl
  obtain ⟨oc18, od18, sl18, kV18, dc18, pm18, an18, cd18, ct18, l18, c18⟩ := c.def_ 18 (d := d18) rfl
  obtain ⟨oc19, od19, sl19, kV19, dc19, pm19, an19, cd19, ct19, l19, c19⟩ := c.def_ 19 (d := d19) rfl
  obtain ⟨oc20, od20, sl20, kV20, dc20, pm20, an20, cd20, ct20, l20, c20⟩ := c.def_ 20 (d := d20) rfl
  obtain ⟨oc21, od21, sl21, kV21, dc21, pm21, an21, cd21, ct21, l21, c21⟩ := c.def_ 21 (d := d21) rfl
  obtain ⟨oc22, od22, sl22, kV22, dc22, pm22, an22, cd22, ct22, l22, c22⟩ := c.def_ 22 (d := d22) rfl
  obtain ⟨oc23, od23, sl23, kV23, dc23, pm23, an23, cd23, ct23, l23, c23⟩ := c.def_ 23 (d := d23) rfl
  obtain ⟨oc24, od24, sl24, kV24, dc24, pm24, an24, cd24, ct24, l24, c24⟩ := c.def_ 24 (d := d24) rfl
  obtain ⟨oc25, od25, sl25, kV25, dc25, pm25, an25, cd25, ct25, l25, c25⟩ := c.def_ 25 (d := d25) rfl
  obtain ⟨oc26, od26, sl26, kV26, dc26, pm26, an26, cd26, ct26, l26, c26⟩ := c.def_ 26 (d := d26) rfl
  obtain ⟨oc27, od27, sl27, kV27, dc27, pm27, an27, cd27, ct27, l27, c27⟩ := c.def_ 27 (d := d27) rfl
  obtain ⟨oc28, od28, sl28, kV28, dc28, pm28, an28, cd28, ct28, l28, c28⟩ := c.def_ 28 (d := d28) rfl
  obtain ⟨oc29, od29, sl29, kV29, dc29, pm29, an29, cd29, ct29, l29, c29⟩ := c.def_ 29 (d := d29) rfl
  obtain ⟨oc30, od30, sl30, kV30, dc30, pm30, an30, cd30, ct30, l30, c30⟩ := c.def_ 30 (d := d30) rfl
  obtain ⟨oc31, od31, sl31, kV31, dc31, pm31, an31, cd31, ct31, l31, c31⟩ := c.def_ 31 (d := d31) rfl
  obtain ⟨oc32, od32, sl32, kV32, dc32, pm32, an32, cd32, ct32, l32, c32⟩ := c.def_ 32 (d := d32) rfl
  obtain ⟨oc33, od33, sl33, kV33, dc33, pm33, an33, cd33, ct33, l33, c33⟩ := c.def_ 33 (d := d33) rfl
  obtain ⟨oc34, od34, sl34, kV34, dc34, pm34, an34, cd34, ct34, l34, c34⟩ := c.def_ 34 (d := d34) rfl
  obtain ⟨oc35, od35, sl35, kV35, dc35, pm35, an35, cd35, ct35, l35, c35⟩ := c.def_ 35 (d := d35) rfl
  obtain ⟨oc36, od36, sl36, kV36, dc36, pm36, an36, cd36, ct36, l36, c36⟩ := c.def_ 36 (d := d36) rfl
  obtain ⟨oc37, od37, sl37, kV37, dc37, pm37, an37, cd37, ct37, l37, c37⟩ := c.def_ 37 (d := d37) rfl
  obtain ⟨oc38, od38, sl38, kV38, dc38, pm38, an38, cd38, ct38, l38, c38⟩ := c.def_ 38 (d := d38) rfl
  obtain ⟨oc39, od39, sl39, kV39, dc39, pm39, an39, cd39, ct39, l39, c39⟩ := c.def_ 39 (d := d39) rfl
  obtain ⟨oc40, od40, sl40, kV40, dc40, pm40, an40, cd40, ct40, l40, c40⟩ := c.def_ 40 (d := d40) rfl
  obtain ⟨oc41, od41, sl41, kV41, dc41, pm41, an41, cd41, ct41, l41, c41⟩ := c.def_ 41 (d := d41) rfl
  obtain ⟨oc42, od42, sl42, kV42, dc42, pm42, an42, cd42, ct42, l42, c42⟩ := c.def_ 42 (d := d42) rfl
  obtain ⟨oc43, od43, sl43, kV43, dc43, pm43, an43, cd43, ct43, l43, c43⟩ := c.def_ 43 (d := d43) rfl
  obtain ⟨oc44, od44, sl44, kV44, dc44, pm44, an44, cd44, ct44, l44, c44⟩ := c.def_ 44 (d := d44) rfl
  obtain ⟨oc45, od45, sl45, kV45, dc45, pm45, an45, cd45, ct45, l45, c45⟩ := c.def_ 45 (d := d45) rfl
  obtain ⟨oc46, od46, sl46, kV46, dc46, pm46, an46, cd46, ct46, l46, c46⟩ := c.def_ 46 (d := d46) rfl
  obtain ⟨oc47, od47, sl47, kV47, dc47, pm47, an47, cd47, ct47, l47, c47⟩ := c.def_ 47 (d := d47) rfl
  obtain ⟨oc48, od48, sl48, kV48, dc48, pm48, an48, cd48, ct48, l48, c48⟩ := c.def_ 48 (d := d48) rfl
  obtain ⟨oc49, od49, sl49, kV49, dc49, pm49, an49, cd49, ct49, l49, c49⟩ := c.def_ 49 (d := d49) rfl
  obtain ⟨oc50, od50, sl50, kV50, dc50, pm50, an50, cd50, ct50, l50, c50⟩ := c.def_ 50 (d := d50) rfl
  obtain ⟨oc51, od51, sl51, kV51, dc51, pm51, an51, cd51, ct51, l51, c51⟩ := c.def_ 51 (d := d51) rfl
  exact all_mk (l := PySem.Challenge.rw_translatory_k89_censuses) X G hfa g_Turing g_Registers g_InvalidMachine g_BadArgument hn0 ht0 pg_Turing hd_Turing po_Turing sa_Turing mk_Turing kp_Turing na_Turing_states na_Turing_symbols na_Turing_rules na_Turing__rules_at ha_Turing hm_Turing pg_Registers hd_Registers po_Registers sa_Registers mk_Registers kp_Registers na_Registers_count na_Registers_instructions ha_Registers hm_Registers kp_InvalidMachine ex_InvalidMachine sb_InvalidMachine ty_InvalidMachine hd_InvalidMachine sf_InvalidMachine ga_InvalidMachine gg_InvalidMachine ha_InvalidMachine hm_InvalidMachine kp_BadArgument ex_BadArgument sb_BadArgument ty_BadArgument hd_BadArgument sf_BadArgument ga_BadArgument gg_BadArgument ha_BadArgument hm_BadArgument kit_ki_Turing_Registers kit_ki_Registers_Turing a0 l0 c0 k0 a1 l1 c1 k1 a2 l2 c2 k2 a3 l3 c3 k3 a4 n4 l4 c4 k4 a5 n5 l5 c5 k5 xl5 xn5 xe5 xx5 a6 l6 c6 k6 a7 n7 l7 c7 k7 a8 l8 c8 k8 a9 n9 l9 c9 k9 a10 n10 l10 c10 k10 xl10 xn10 xe10 xx10 a11 n11 l11 c11 k11 a12 n12 l12 c12 k12 a13 l13 c13 k13 a14 l14 c14 k14 a15 l15 c15 k15 a16 l16 c16 k16 a17 l17 c17 k17 a18 l18 c18 k18 a19 l19 c19 k19 a20 l20 c20 k20 a21 l21 c21 k21 a22 l22 c22 k22 a23 l23 c23 k23 a24 l24 c24 k24 a25 l25 c25 k25 a26 l26 c26 k26 a27 l27 c27 k27 a28 l28 c28 k28 a29 l29 c29 k29 a30 l30 c30 k30 a31 l31 c31 k31 a32 l32 c32 k32 a33 l33 c33 k33 a34 l34 c34 k34 a35 l35 c35 k35 a36 l36 c36 k36 a37 l37 c37 k37 a38 l38 c38 k38 a39 l39 c39 k39 a40 l40 c40 k40 a41 l41 c41 k41 a42 l42 c42 k42 a43 l43 c43 k43 a44 l44 c44 k44 a45 l45 c45 k45 a46 l46 c46 k46 a47 l47 c47 k47 a48 l48 c48 k48 a49 l49 c49 k49 a50 l50 c50 k50 a51 l51 c51 k51 z_abs z_all z_bool z_divmod z_enumerate z_int z_isinstance z_len z_list z_max z_min z_range z_reversed z_sorted z_str z_tuple z_zip m_MOST_REGISTERS m_MOST_INSTRUCTIONS m_MOST_STATES_turing m_MOST_SYMBOLS m_BLANK m_GREATEST_LIMIT m_MOST_STATES_census m_MOST_MACHINES m_MARK
end K89
open PySem PySem.W PySem.Calls PyProof.Rows
theorem PySem.Challenge.cw_translatory_k89_censuses_holds : PySem.Challenge.rw_translatory_k89_censuses.Holds := by
  w_on; o_law
  refine HandSHeadRun.head_any (r := OpenLaw.row PySem.Challenge.rw_translatory_k89_censuses) (q := K89.qv) (H := Hd.hook K89.as_ K89.FA) (ob := Hd.ob K89.as_ K89.FA) (M := 3309) (loose := K89.nm_) (d := HandSHeadRun.topDef (OpenLaw.row PySem.Challenge.rw_translatory_k89_censuses).prog 69) (kwd := []) Hd.ob_eq
    (by kernel_rfl) (fun s => by kernel_rfl) K89.run (by kernel_rfl) (by kernel_rfl) (by kernel_rfl) (by rfl) (by first | assumption | decide +kernel) (by decide +kernel) ⟨rfl, rfl, rfl, rfl, rfl, by decide +kernel⟩ ?hw ?hc
  case hw => w_witness2
  case hc =>
    refine L2.walk_ofE (l := PySem.Challenge.rw_translatory_k89_censuses) (n := 63) (k := 9) (x := "script") (CX := L2.CX0) rfl (by decide) (by kernel_rfl) ⟨rfl, by decide, by decide⟩ ?F (fun _ _ _ _ z => z)
    intro w mg fa h Y G hmg0
    obtain ⟨K, KX, c⟩ := Y
    have hmg : mg ("law" : PySem.Str) = some (.ref fa) := by
      have e : (HandSHeadRun.topDef (OpenLaw.row PySem.Challenge.rw_translatory_k89_censuses).prog 69).name = ("law" : PySem.Str) := by kernel_rfl
      rw [← e]
      exact hmg0
    obtain ⟨fd, hb, hF⟩ := K89.facts KX G hmg c
    exact ⟨K, fd, Ly.spLaw K, KX, hb, fun H a ns hl _ hS => ⟨a, ns, rfl, hS, hl, fun _ => rfl⟩, hF⟩
#print axioms PySem.Challenge.cw_translatory_k89_censuses_holds

