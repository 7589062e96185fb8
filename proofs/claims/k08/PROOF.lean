import PyProof.Rows.All
import Wide.All
import OpenK.AllK
import Wide.FinOn
import HandS.ForMost
import HandS.Conv
import HandS.IsInst
import HandS.TupAny
import HandS.WideBits
import HandS.Rev
import HandS.Style
import HandS.Flow
import HandS.Evl
import HandS.Codes
import HandS.ForExc
import HandS.ExcIs
import HandS.OwnEq
import PyProof.InstNe
import KE.KUnpackStar
import KE.DatumOrd
import HandS.Gcd
import HandS.Iter
import HandS.More
import HandS.Wide
import PySem.Challenge.RW_translatory_k08_tag_systems
set_option Elab.async false
set_option linter.all false
set_option maxRecDepth 100000
set_option maxHeartbeats 2000000
namespace Ly
open PySem L2

/-! ## data -/
inductive Dat where
  | non | bl (b : Bool) | int (i : Int) | str (x : Str) | adr (a : Addr) | tup (xs : List Dat) | lst (xs : List Dat) | obj (C : Addr) (fs : List (Str × Dat)) | dct (es : List (List Key × Dat))

mutual
inductive Rep (K : PySem.W.Frag) (G : Hp) : V → Dat → Prop
  | non : Rep K G .non .non
  | bl (b : Bool) : Rep K G (.bl b) (.bl b)
  | int (i : Int) : Rep K G (.int i) (.int i)
  | str (x : Str) : Rep K G (.str x) (.str x)
  | adr (a : Addr) : Rep K G (.ref a) (.adr a)
  | tup {a : Addr} {xs : List V} {ds : List Dat} : SqT K G a xs → Reps K G xs ds → Rep K G (.ref a) (.tup ds)
  | lst {a : Addr} {xs : List V} {ds : List Dat} : SqL K G a xs → Reps K G xs ds → Rep K G (.ref a) (.lst ds)
  | dct {a : Addr} {vs : List (List Key × V)} {es : List (List Key × Dat)} : G a = some (.dT vs) → Dcts K G vs es → Rep K G (.ref a) (.dct es)
  | obj {a C dx : Addr} {vs : List (Str × V)} {fs : List (Str × Dat)} : G a = some (.ins C dx vs) → Flds K G vs fs → Rep K G (.ref a) (.obj C fs)
inductive Reps (K : PySem.W.Frag) (G : Hp) : List V → List Dat → Prop
  | nil : Reps K G [] []
  | cons {v : V} {vs : List V} {d : Dat} {ds : List Dat} : Rep K G v d → Reps K G vs ds → Reps K G (v :: vs) (d :: ds)
inductive Flds (K : PySem.W.Frag) (G : Hp) : List (Str × V) → List (Str × Dat) → Prop
  | nil : Flds K G [] []
  | cons {f : Str} {v : V} {vs : List (Str × V)} {d : Dat} {ds : List (Str × Dat)} : Rep K G v d → Flds K G vs ds → Flds K G ((f, v) :: vs) ((f, d) :: ds)
/-- a dict with tuples of scalars as keys -/
inductive Dcts (K : PySem.W.Frag) (G : Hp) : List (List Key × V) → List (List Key × Dat) → Prop
  | nil : Dcts K G [] []
  | cons {k : List Key} {v : V} {vs : List (List Key × V)} {d : Dat} {ds : List (List Key × Dat)} : Rep K G v d → Dcts K G vs ds → Dcts K G ((k, v) :: vs) ((k, d) :: ds)
end

def Ex (H H' : Hp) : Prop := ∀ a o, H a = some o → H' a = some o
theorem Ex.refl (H : Hp) : Ex H H := fun _ _ h => h
theorem Ex.trans {H H1 H2 : Hp} (a : Ex H H1) (b : Ex H1 H2) : Ex H H2 := fun x o h => b x o (a x o h)
theorem Ex.new {H : Hp} {p : Addr} {o : HO} (h : H p = none) : Ex H (upd H p o) := fun a u e => by
  rw [upd_ne (ne_of_none e h)]
  exact e
theorem ex_rd {H H' : Hp} {a : Addr} {u : HO} (e : Ex H H') (h : Rd H a u) : Rd H' a u := by
  rcases h with h | ⟨o, h⟩
  · exact Or.inl (e a _ h)
  · exact Or.inr ⟨o, e a _ h⟩
theorem ex_l {K : PySem.W.Frag} {H H' : Hp} {a : Addr} {xs : List V} (e : Ex H H') (h : SqL K H a xs) : SqL K H' a xs := by
  rcases h with h | h
  · exact Or.inl (ex_rd e h)
  · exact Or.inr h
theorem ex_t {K : PySem.W.Frag} {H H' : Hp} {a : Addr} {xs : List V} (e : Ex H H') (h : SqT K H a xs) : SqT K H' a xs := by
  rcases h with h | h
  · exact Or.inl (ex_rd e h)
  · exact Or.inr h
theorem l_of {K : PySem.W.Frag} {H : Hp} {a : Addr} {xs : List V} (h : H a = some (.lst xs)) : SqL K H a xs := Or.inl (Or.inl h)
theorem t_of {K : PySem.W.Frag} {H : Hp} {a : Addr} {xs : List V} (h : H a = some (.tup xs)) : SqT K H a xs := Or.inl (Or.inl h)

section
variable {K : PySem.W.Frag} {G G2 : Hp}
mutual
theorem Rep.mono (e : Ex G G2) : ∀ {v : V} {d : Dat}, Rep K G v d → Rep K G2 v d
  | _, _, .non => .non
  | _, _, .bl b => .bl b
  | _, _, .int i => .int i
  | _, _, .str x => .str x
  | _, _, .adr a => .adr a
  | _, _, .tup h r => .tup (ex_t e h) (Reps.mono e r)
  | _, _, .lst h r => .lst (ex_l e h) (Reps.mono e r)
  | _, _, .obj h r => .obj (e _ _ h) (Flds.mono e r)
  | _, _, .dct h r => .dct (e _ _ h) (Dcts.mono e r)
theorem Reps.mono (e : Ex G G2) : ∀ {v : List V} {d : List Dat}, Reps K G v d → Reps K G2 v d
  | _, _, .nil => .nil
  | _, _, .cons h r => .cons (Rep.mono e h) (Reps.mono e r)
theorem Flds.mono (e : Ex G G2) : ∀ {v : List (Str × V)} {d : List (Str × Dat)}, Flds K G v d → Flds K G2 v d
  | _, _, .nil => .nil
  | _, _, .cons h r => .cons (Rep.mono e h) (Flds.mono e r)
theorem Dcts.mono (e : Ex G G2) : ∀ {v : List (List Key × V)} {d : List (List Key × Dat)}, Dcts K G v d → Dcts K G2 v d
  | _, _, .nil => .nil
  | _, _, .cons h r => .cons (Rep.mono e h) (Dcts.mono e r)
end
end

section
variable {K : PySem.W.Frag} {G : Hp} {v : V} {xs ys : List V} {ds es : List Dat} {d : Dat}
theorem Rep.int_inv {i : Int} (h : Rep K G v (.int i)) : v = .int i := by cases h; rfl
theorem Rep.bl_inv {b : Bool} (h : Rep K G v (.bl b)) : v = .bl b := by cases h; rfl
theorem Rep.str_inv {x : Str} (h : Rep K G v (.str x)) : v = .str x := by cases h; rfl
theorem Rep.non_inv (h : Rep K G v .non) : v = .non := by cases h; rfl
theorem Rep.adr_inv {a : Addr} (h : Rep K G v (.adr a)) : v = .ref a := by cases h; rfl
theorem Rep.tup_inv (h : Rep K G v (.tup ds)) : ∃ a xs, v = .ref a ∧ SqT K G a xs ∧ Reps K G xs ds := by
  cases h with
  | tup h r => exact ⟨_, _, rfl, h, r⟩
theorem Rep.lst_inv (h : Rep K G v (.lst ds)) : ∃ a xs, v = .ref a ∧ SqL K G a xs ∧ Reps K G xs ds := by
  cases h with
  | lst h r => exact ⟨_, _, rfl, h, r⟩
theorem Reps.length : ∀ {xs : List V} {ds : List Dat}, Reps K G xs ds → xs.length = ds.length
  | _, _, .nil => rfl
  | _, _, .cons _ r => by rw [List.length_cons, List.length_cons, Reps.length r]
theorem Reps.get : ∀ {xs : List V} {ds : List Dat} {i : Nat} {d : Dat}, Reps K G xs ds → ds[i]? = some d → ∃ v, xs[i]? = some v ∧ Rep K G v d
  | _, _, _, _, .nil, h => by simp at h
  | _, _, 0, _, .cons h _, e => by
    simp at e
    subst e
    exact ⟨_, rfl, h⟩
  | _, _, i + 1, d, .cons _ r, e => by
    obtain ⟨v, h1, h2⟩ := Reps.get (i := i) (d := d) r (by simpa using e)
    exact ⟨v, by simpa using h1, h2⟩
theorem Reps.getV : ∀ {xs : List V} {ds : List Dat} {i : Nat} {v : V}, Reps K G xs ds → xs[i]? = some v → ∃ d, ds[i]? = some d ∧ Rep K G v d
  | _, _, _, _, .nil, h => by simp at h
  | _, _, 0, _, .cons h _, e => by
    simp at e
    subst e
    exact ⟨_, rfl, h⟩
  | _, _, i + 1, d, .cons _ r, e => by
    obtain ⟨v, h1, h2⟩ := Reps.getV (i := i) (v := d) r (by simpa using e)
    exact ⟨v, by simpa using h1, h2⟩
theorem Reps.append : ∀ {xs ys : List V} {ds es : List Dat}, Reps K G xs ds → Reps K G ys es → Reps K G (xs ++ ys) (ds ++ es)
  | _, _, _, _, .nil, s => s
  | _, _, _, _, .cons r t, s => .cons r (Reps.append t s)
theorem Reps.take : ∀ {xs : List V} {us : List Dat} (n : Nat), Reps K G xs us → Reps K G (xs.take n) (us.take n)
  | _, _, 0, _ => .nil
  | _, _, _ + 1, .nil => .nil
  | _, _, n + 1, .cons r t => .cons r (Reps.take n t)
theorem Reps.drop : ∀ {xs : List V} {us : List Dat} (n : Nat), Reps K G xs us → Reps K G (xs.drop n) (us.drop n)
  | _, _, 0, r => r
  | _, _, _ + 1, .nil => .nil
  | _, _, n + 1, .cons _ t => Reps.drop n t
theorem Reps.reverse : ∀ {xs : List V} {us : List Dat}, Reps K G xs us → Reps K G xs.reverse us.reverse
  | _, _, .nil => .nil
  | _, _, .cons r t => by
    rw [List.reverse_cons, List.reverse_cons]
    exact Reps.append (Reps.reverse t) (.cons r .nil)
theorem Reps.ints : ∀ {xs : List V} {ns : List Int}, Reps K G xs (ns.map Dat.int) → xs = ns.map V.int
  | _, [], h => by
    cases h
    rfl
  | _, n :: ns, h => by
    cases h with
    | cons h r =>
      cases h
      rw [Reps.ints (ns := ns) r]
      rfl
theorem Reps.of_ints : ∀ (ns : List Int), Reps K G (ns.map V.int) (ns.map Dat.int)
  | [] => .nil
  | n :: ns => .cons (.int n) (Reps.of_ints ns)
theorem Reps.set {v : V} {d : Dat} (h : Rep K G v d) : ∀ {xs : List V} {us : List Dat} (n : Nat), Reps K G xs us → Reps K G (xs.set n v) (us.set n d)
  | _, _, _, .nil => .nil
  | _, _, 0, .cons _ t => .cons h t
  | _, _, n + 1, .cons r t => .cons r (Reps.set h n t)
theorem Flds.get : ∀ {vs : List (Str × V)} {fs : List (Str × Dat)} {f : Str} {d : Dat}, Flds K G vs fs → fs.lookup f = some d → ∃ v, vs.lookup f = some v ∧ Rep K G v d
  | _, _, _, _, .nil, h => by simp at h
  | _, _, f, d, .cons (f := g) h r, e => by
    rw [List.lookup_cons] at e ⊢
    by_cases q : (f == g) = true
    · rw [q] at e ⊢
      simp at e
      subst e
      exact ⟨_, rfl, h⟩
    · have q : (f == g) = false := by simpa using q
      rw [q] at e ⊢
      exact Flds.get r e
end

/-! ## worlds -/
structure Wd where
  m : Addr → Prop
  I : Hp → Prop
  loc : ∀ {H H2 : Hp}, I H → (∀ a, m a → H2 a = H a) → I H2
  tr : ∀ {H : Hp} {a : Addr}, I H → m a → ∃ o, H a = some o
theorem Wd.st (W : Wd) {H H2 : Hp} (h : W.I H) (e : Ex H H2) : W.I H2 := W.loc h fun a ha => by
  obtain ⟨o, ho⟩ := W.tr h ha
  rw [ho]
  exact e a o ho
def Wd0 : Wd := ⟨fun _ => False, fun _ => True, fun _ _ => trivial, fun _ h => h.elim⟩
structure Ok (W : Wd) (G H : Hp) : Prop where
  ex : Ex G H
  inv : W.I H
  off : ∀ a, W.m a → G a = none
structure Stp (W : Wd) (G H G2 H2 : Hp) : Prop where
  gg : Ex G G2
  gh : Ex G2 H2
  hh : ∀ a o, ¬ W.m a → H a = some o → H2 a = some o
  nw : ∀ a o, G2 a = some o → G a = some o ∨ H a = none
  inv : W.I H2
section
variable {W : Wd} {G H G2 H2 G3 H3 : Hp}
theorem Stp.ok (k : Ok W G H) (s : Stp W G H G2 H2) : Ok W G2 H2 := ⟨s.gh, s.inv, fun a ha => by
  cases e : G2 a with
  | none => rfl
  | some o =>
    rcases s.nw a o e with h | h
    · rw [k.off a ha] at h
      cases h
    · obtain ⟨u, hu⟩ := W.tr k.inv ha
      rw [hu] at h
      cases h⟩
theorem Stp.refl (k : Ok W G H) : Stp W G H G H := ⟨Ex.refl _, k.ex, fun _ _ _ h => h, fun _ _ h => .inl h, k.inv⟩
theorem Stp.trans (s : Stp W G H G2 H2) (t : Stp W G2 H2 G3 H3) : Stp W G H G3 H3 := by
  refine ⟨s.gg.trans t.gg, t.gh, fun a o hm h => t.hh a o hm (s.hh a o hm h), fun a o h => ?_, t.inv⟩
  rcases t.nw a o h with h | h
  · exact s.nw a o h
  · right
    cases e : H a with
    | none => rfl
    | some u =>
      by_cases hm : W.m a
      · obtain ⟨z, hz⟩ := W.tr s.inv hm
        rw [hz] at h
        cases h
      · rw [s.hh a u hm e] at h
        cases h
/-- the heap alone grows -/
theorem Stp.grow (k : Ok W G H) (e : Ex H H2) : Stp W G H G H2 := ⟨Ex.refl _, k.ex.trans e, fun a o _ h => e a o h, fun _ _ h => .inl h, W.st k.inv e⟩
/-- a new object is known from now on -/
theorem Stp.new (k : Ok W G H) {p : Addr} {o : HO} (hp : H p = none) : Stp W G H (upd G p o) (upd H p o) := by
  have gp : G p = none := by
    cases e : G p with
    | none => rfl
    | some u =>
      rw [k.ex p u e] at hp
      cases hp
  refine ⟨Ex.new gp, fun a u h => ?_, fun a u _ h => Ex.new hp a u h, fun a u h => ?_, W.st k.inv (Ex.new hp)⟩
  · by_cases e : a = p
    · subst e
      rw [upd_same] at h ⊢
      exact h
    · rw [upd_ne e] at h ⊢
      exact k.ex a u h
  · by_cases e : a = p
    · subst e
      exact .inr hp
    · rw [upd_ne e] at h
      exact .inl h
theorem Ok.pure (k : Ok W G H) : Ok Wd0 G H := ⟨k.ex, trivial, fun _ h => h.elim⟩
theorem Stp.of0 (k : Ok W G H) (s : Stp Wd0 G H G2 H2) : Stp W G H G2 H2 := ⟨s.gg, s.gh, fun a o _ h => s.hh a o (fun z => z) h, s.nw, W.st k.inv fun a o h => s.hh a o (fun z => z) h⟩
theorem Stp.ex0 (s : Stp Wd0 G H G2 H2) : Ex H H2 := fun a o h => s.hh a o (fun z => z) h
end

/-! ## the slots by data -/
structure Env (K : PySem.W.Frag) (G : Hp) (σ : L2.St) (Γ : List (Option Dat)) : Prop where
  len : σ.length = Γ.length
  at' : ∀ (i : Nat) (d : Dat), Γ[i]? = some (some d) → ∃ v, σ[i]? = some (some v) ∧ Rep K G v d
section
variable {K : PySem.W.Frag} {G G2 : Hp} {σ : L2.St} {Γ Γ' : List (Option Dat)}
theorem Env.mono (e : Ex G G2) (h : Env K G σ Γ) : Env K G2 σ Γ := ⟨h.len, fun i d q => by
  obtain ⟨v, h1, h2⟩ := h.at' i d q
  exact ⟨v, h1, h2.mono e⟩⟩
theorem Env.set {i : Nat} {v : V} {d : Dat} (h : Env K G σ Γ) (r : Rep K G v d) : Env K G (σ.set i (some v)) (Γ.set i (some d)) := by
  refine ⟨by rw [List.length_set, List.length_set, h.len], fun j u q => ?_⟩
  by_cases hij : i = j
  · subst hij
    by_cases hl : i < Γ.length
    · rw [List.getElem?_set_self hl] at q
      have e : d = u := Option.some.inj (Option.some.inj q)
      subst e
      exact ⟨v, List.getElem?_set_self (by rw [h.len]; exact hl), r⟩
    · rw [List.getElem?_eq_none (by rw [List.length_set]; omega)] at q
      cases q
  · rw [List.getElem?_set_ne hij] at q ⊢
    exact h.at' j u q
inductive Wk : List (Option Dat) → List (Option Dat) → Prop
  | nil : Wk [] []
  | keep {a : Option Dat} {Γ Γ' : List (Option Dat)} : Wk Γ Γ' → Wk (a :: Γ) (a :: Γ')
  | drop {a : Option Dat} {Γ Γ' : List (Option Dat)} : Wk Γ Γ' → Wk (a :: Γ) (none :: Γ')
theorem Wk.refl : ∀ (Γ : List (Option Dat)), Wk Γ Γ
  | [] => .nil
  | _ :: Γ => .keep (Wk.refl Γ)
theorem Wk.length : ∀ {Γ Γ' : List (Option Dat)}, Wk Γ Γ' → Γ.length = Γ'.length
  | _, _, .nil => rfl
  | _, _, .keep h => by rw [List.length_cons, List.length_cons, Wk.length h]
  | _, _, .drop h => by rw [List.length_cons, List.length_cons, Wk.length h]
theorem Wk.get : ∀ {Γ Γ' : List (Option Dat)} {i : Nat} {d : Dat}, Wk Γ Γ' → Γ'[i]? = some (some d) → Γ[i]? = some (some d)
  | _, _, _, _, .nil, h => h
  | _, _, 0, _, .keep _, h => h
  | _, _, _ + 1, _, .keep w, h => by
    rw [List.getElem?_cons_succ] at h ⊢
    exact Wk.get w h
  | _, _, 0, _, .drop _, h => by
    simp at h
  | _, _, _ + 1, _, .drop w, h => by
    rw [List.getElem?_cons_succ] at h ⊢
    exact Wk.get w h
theorem Env.weak (w : Wk Γ Γ') (h : Env K G σ Γ) : Env K G σ Γ' := ⟨h.len.trans w.length, fun i d q => h.at' i d (w.get q)⟩
def wipeG (Γ : List (Option Dat)) : List Nat → List (Option Dat)
  | [] => Γ
  | v :: vs => (wipeG Γ vs).set v none
theorem Env.none {i : Nat} (h : Env K G σ Γ) : Env K G (σ.set i Option.none) (Γ.set i Option.none) := by
  refine ⟨by rw [List.length_set, List.length_set, h.len], fun j u q => ?_⟩
  by_cases hij : i = j
  · subst hij
    by_cases hl : i < Γ.length
    · rw [List.getElem?_set_self hl] at q
      cases q
    · rw [List.getElem?_eq_none (by rw [List.length_set]; omega)] at q
      cases q
  · rw [List.getElem?_set_ne hij] at q ⊢
    exact h.at' j u q
theorem Env.wipe (h : Env K G σ Γ) : ∀ vs : List Nat, Env K G (L2.wipe σ vs) (wipeG Γ vs)
  | [] => h
  | v :: vs => (Env.wipe h vs).none
theorem env_start {N : List Str} {vs : List V} {ds : List Dat} (r : Reps K G vs ds) : Env K G (L2.start N vs) (ds.map some ++ List.replicate (N.length - ds.length) Option.none) := by
  have hl := r.length
  refine ⟨by unfold L2.start; simp [hl], fun i d q => ?_⟩
  unfold L2.start
  by_cases hi : i < ds.length
  · rw [List.getElem?_append_left (by simpa using hi), List.getElem?_map] at q
    cases e : ds[i]? with
    | none =>
      rw [e] at q
      cases q
    | some u =>
      rw [e] at q
      have e2 : u = d := Option.some.inj (Option.some.inj q)
      subst e2
      obtain ⟨v, h1, h2⟩ := r.get e
      refine ⟨v, ?_, h2⟩
      rw [List.getElem?_append_left (by rw [List.length_map, hl]; exact hi), List.getElem?_map, h1]
      rfl
  · rw [List.getElem?_append_right (by simpa using hi), List.getElem?_replicate] at q
    split at q <;> cases q
end
end Ly

set_option maxHeartbeats 2000000
namespace Ly
open PySem L2

/-! ## what expressions come to -/
/-- what is wanted of a value that is one of P -/
abbrev Go (W : Wd) (K : PySem.W.Frag) (G H : Hp) (P : Dat → Prop) (Q : VK) : Prop := ∀ v d G2 H2, Stp W G H G2 H2 → P d → Rep K G2 v d → Q v H2
def Ev (W : Wd) (K : PySem.W.Frag) (te : TE) (Γ : List (Option Dat)) (P : Dat → Prop) : Prop := ∀ σ G H, Env K G σ Γ → Ok W G H → ∀ Q : VK, Go W K G H P Q → te σ H Q
abbrev EvX (W : Wd) (K : PySem.W.Frag) (te : TE) (Γ : List (Option Dat)) (d : Dat) : Prop := Ev W K te Γ (· = d)
def EvB (W : Wd) (K : PySem.W.Frag) (tt : TT) (Γ : List (Option Dat)) (P : Bool → Prop) : Prop := ∀ σ G H, Env K G σ Γ → Ok W G H → ∀ Q : Bool → Hp → Prop, (∀ b G2 H2, Stp W G H G2 H2 → P b → Q b H2) → tt σ H Q
abbrev EvBX (W : Wd) (K : PySem.W.Frag) (tt : TT) (Γ : List (Option Dat)) (b : Bool) : Prop := EvB W K tt Γ (· = b)
def EvA (W : Wd) (K : PySem.W.Frag) (ta : TA) (Γ : List (Option Dat)) (P : List Dat → Prop) : Prop := ∀ σ G H, Env K G σ Γ → Ok W G H → ∀ Q : List V → Hp → Prop, (∀ vs ds G2 H2, Stp W G H G2 H2 → P ds → Reps K G2 vs ds → Q vs H2) → ta σ H Q
abbrev EvAX (W : Wd) (K : PySem.W.Frag) (ta : TA) (Γ : List (Option Dat)) (ds : List Dat) : Prop := EvA W K ta Γ (· = ds)
def EvO (W : Wd) (K : PySem.W.Frag) (to : TO) (Γ : List (Option Dat)) (P : Option Int → Prop) : Prop := ∀ σ G H, Env K G σ Γ → Ok W G H → ∀ Q : Option Int → Hp → Prop, (∀ o G2 H2, Stp W G H G2 H2 → P o → Q o H2) → to σ H Q
/-- a new list -/
def EvN (W : Wd) (K : PySem.W.Frag) (te : TE) (Γ : List (Option Dat)) (P : List Dat → Prop) : Prop := ∀ σ G H, Env K G σ Γ → Ok W G H → ∀ Q : VK, (∀ p xs ds G2 H2, Stp W G H G2 H2 → H p = none → G2 p = none → H2 p = some (.lst xs) → Reps K G2 xs ds → P ds → Q (.ref p) H2) → te σ H Q
/-- operations by values -/
def RV (W : Wd) (K : PySem.W.Frag) (r : R2) (a b : Dat) (P : Dat → Prop) : Prop := ∀ G H x y, Ok W G H → Rep K G x a → Rep K G y b → ∀ Q : VK, Go W K G H P Q → r x y H Q
def RU (W : Wd) (K : PySem.W.Frag) (r : V → Hp → VK → Prop) (a : Dat) (P : Dat → Prop) : Prop := ∀ G H x, Ok W G H → Rep K G x a → ∀ Q : VK, Go W K G H P Q → r x H Q
def RC (W : Wd) (K : PySem.W.Frag) (r : List V → Hp → VK → Prop) (ds : List Dat) (P : Dat → Prop) : Prop := ∀ G H xs, Ok W G H → Reps K G xs ds → ∀ Q : VK, Go W K G H P Q → r xs H Q

section
variable {W : Wd} {K : PySem.W.Frag} {Γ : List (Option Dat)} {ta tb tc te : TE} {tt tu : TT} {tA : TA} {P R S : Dat → Prop} {a b d e : Dat} {G H G2 H2 : Hp}
theorem Go.here {Q : VK} {v : V} (q : Go W K G H P Q) (k : Ok W G H) (r : Rep K G v d) (p : P d) : Q v H := q v d G H (Stp.refl k) p r
theorem Go.step {Q : VK} (q : Go W K G H P Q) (s : Stp W G H G2 H2) : Go W K G2 H2 P Q := fun v d G3 H3 t p r => q v d G3 H3 (s.trans t) p r
theorem Ev.imp (h : Ev W K te Γ P) (i : ∀ d, P d → R d) : Ev W K te Γ R := fun σ G H n k Q q => h σ G H n k Q fun v d G2 H2 s p r => q v d G2 H2 s (i d p) r
theorem EvB.imp {P R : Bool → Prop} (h : EvB W K tt Γ P) (i : ∀ d, P d → R d) : EvB W K tt Γ R := fun σ G H n k Q q => h σ G H n k Q fun b G2 H2 s p => q b G2 H2 s (i b p)
theorem EvX.to (h : EvX W K te Γ a) (i : a = b) : EvX W K te Γ b := i ▸ h
theorem EvX.any (h : EvX W K te Γ a) (i : P a) : Ev W K te Γ P := h.imp fun d e => e ▸ i
theorem EvBX.to {a b : Bool} (h : EvBX W K tt Γ a) (i : a = b) : EvBX W K tt Γ b := i ▸ h

theorem v_var {i : Nat} (h : Γ[i]? = some (some d)) : EvX W K (tVar i) Γ d := fun σ G H n k Q q => by
  obtain ⟨v, h1, h2⟩ := n.at' i d h
  exact ⟨v, h1, q.here k h2 rfl⟩
theorem v_int {i : Int} : EvX W K (tC (.int i)) Γ (.int i) := fun σ G H n k Q q => q.here k (.int i) rfl
theorem v_bl {b : Bool} : EvX W K (tC (.bl b)) Γ (.bl b) := fun σ G H n k Q q => q.here k (.bl b) rfl
theorem v_str {x : Str} : EvX W K (tC (.str x)) Γ (.str x) := fun σ G H n k Q q => q.here k (.str x) rfl
theorem v_non : EvX W K (tC .non) Γ .non := fun σ G H n k Q q => q.here k .non rfl
theorem v_op {r : R2} (ha : Ev W K ta Γ P) (hb : Ev W K tb Γ R) (hr : ∀ a b, P a → R b → RV W K r a b S) : Ev W K (tOp r ta tb) Γ S := fun σ G H n k Q q =>
  ha σ G H n k _ fun x dx G2 H2 s px rx => hb σ G2 H2 (n.mono s.gg) (s.ok k) _ fun y dy G3 H3 t py ry =>
    hr dx dy px py G3 H3 x y (t.ok (s.ok k)) (rx.mono t.gg) ry Q (q.step (s.trans t))
theorem v_opx {r : R2} (ha : EvX W K ta Γ a) (hb : EvX W K tb Γ b) (hr : RV W K r a b S) : Ev W K (tOp r ta tb) Γ S := v_op ha hb fun x y hx hy => by
  subst hx hy
  exact hr
theorem v_un {r : V → Hp → VK → Prop} (ha : Ev W K ta Γ P) (hr : ∀ a, P a → RU W K r a S) : Ev W K (tUn r ta) Γ S := fun σ G H n k Q q =>
  ha σ G H n k _ fun x dx G2 H2 s px rx => hr dx px G2 H2 x (s.ok k) rx Q (q.step s)
theorem v_neg {i : Int} (ha : EvX W K ta Γ (.int i)) : EvX W K (tUn (rU fun i => .int (-i)) ta) Γ (.int (-i)) := v_un ha fun d e => by
  subst e
  intro G H x k r Q q
  cases r
  exact ⟨i, rfl, q.here k (.int _) rfl⟩
/-! by values -/
theorem rv_I0 {g : Int → Int → Dat} {g' : Int → Int → V} {i j : Int} (hg : ∀ G, Rep K G (g' i j) (g i j)) : RV W K (rI0 g') (.int i) (.int j) (· = g i j) := fun G H x y k rx ry Q q => by
  cases rx
  cases ry
  exact ⟨i, j, rfl, rfl, q.here k (hg G) rfl⟩
theorem rv_I {C : Int → Int → Prop} {g : Int → Int → Dat} {g' : Int → Int → V} {i j : Int} (hg : ∀ G, Rep K G (g' i j) (g i j)) (hc : C i j) : RV W K (rI C g') (.int i) (.int j) (· = g i j) := fun G H x y k rx ry Q q => by
  cases rx
  cases ry
  exact ⟨i, j, rfl, rfl, hc, q.here k (hg G) rfl⟩
theorem v_add {i j : Int} (ha : EvX W K ta Γ (.int i)) (hb : EvX W K tb Γ (.int j)) : EvX W K (tOp (rI0 fun i j => .int (i + j)) ta tb) Γ (.int (i + j)) := v_opx ha hb (rv_I0 (g := fun i j => .int (i + j)) fun _ => .int _)
theorem v_sub {i j : Int} (ha : EvX W K ta Γ (.int i)) (hb : EvX W K tb Γ (.int j)) : EvX W K (tOp (rI0 fun i j => .int (i - j)) ta tb) Γ (.int (i - j)) := v_opx ha hb (rv_I0 (g := fun i j => .int (i - j)) fun _ => .int _)
theorem v_mul {i j : Int} (ha : EvX W K ta Γ (.int i)) (hb : EvX W K tb Γ (.int j)) (hc : CMul i j) : EvX W K (tOp (rI CMul fun i j => .int (i * j)) ta tb) Γ (.int (i * j)) := v_opx ha hb (rv_I (g := fun i j => .int (i * j)) (fun _ => .int _) hc)
theorem v_fdiv {i j : Int} (ha : EvX W K ta Γ (.int i)) (hb : EvX W K tb Γ (.int j)) (hc : CDiv i j) : EvX W K (tOp (rI CDiv fun i j => .int (i / j)) ta tb) Γ (.int (i / j)) := v_opx ha hb (rv_I (g := fun i j => .int (i / j)) (fun _ => .int _) hc)
theorem v_mod {i j : Int} (ha : EvX W K ta Γ (.int i)) (hb : EvX W K tb Γ (.int j)) (hc : 0 < j) : EvX W K (tOp (rI (fun _ j => 0 < j) fun i j => .int (i % j)) ta tb) Γ (.int (i % j)) := v_opx ha hb (rv_I (C := fun _ j => 0 < j) (g := fun i j => .int (i % j)) (fun _ => .int _) hc)
theorem v_lt {i j : Int} (ha : EvX W K ta Γ (.int i)) (hb : EvX W K tb Γ (.int j)) : EvX W K (tOp (rI0 fun i j => .bl (decide (i < j))) ta tb) Γ (.bl (decide (i < j))) := v_opx ha hb (rv_I0 (g := fun i j => .bl (decide (i < j))) fun _ => .bl _)
theorem v_le {i j : Int} (ha : EvX W K ta Γ (.int i)) (hb : EvX W K tb Γ (.int j)) : EvX W K (tOp (rI0 fun i j => .bl (decide (i ≤ j))) ta tb) Γ (.bl (decide (i ≤ j))) := v_opx ha hb (rv_I0 (g := fun i j => .bl (decide (i ≤ j))) fun _ => .bl _)
theorem v_gt {i j : Int} (ha : EvX W K ta Γ (.int i)) (hb : EvX W K tb Γ (.int j)) : EvX W K (tOp (rI0 fun i j => .bl (decide (j < i))) ta tb) Γ (.bl (decide (j < i))) := v_opx ha hb (rv_I0 (g := fun i j => .bl (decide (j < i))) fun _ => .bl _)
theorem v_ge {i j : Int} (ha : EvX W K ta Γ (.int i)) (hb : EvX W K tb Γ (.int j)) : EvX W K (tOp (rI0 fun i j => .bl (decide (j ≤ i))) ta tb) Γ (.bl (decide (j ≤ i))) := v_opx ha hb (rv_I0 (g := fun i j => .bl (decide (j ≤ i))) fun _ => .bl _)
/-- == of scalars by data -/
def sd : Dat → V
  | .non => .non | .bl b => .bl b | .int i => .int i | .str x => .str x | .adr a => .ref a | _ => .non
def issd : Dat → Bool
  | .non => true | .bl _ => true | .int _ => true | .str _ => true | _ => false
theorem sd_rep {v : V} {d : Dat} (h : issd d = true) (r : Rep K G v d) : v = sd d := by
  cases r <;> first | rfl | cases h
theorem rv_eq (h1 : issd a = true) (h2 : issd b = true) (hs : scal (sd a) (sd b) = true) : RV W K rEq a b (· = .bl (decide (sd a = sd b))) := fun G H x y k rx ry Q q => by
  have e1 := sd_rep h1 rx
  have e2 := sd_rep h2 ry
  subst e1 e2
  exact ⟨hs, q.here k (.bl _) rfl⟩
theorem rv_ne (h1 : issd a = true) (h2 : issd b = true) (hs : scal (sd a) (sd b) = true) : RV W K rNe a b (· = .bl (!decide (sd a = sd b))) := fun G H x y k rx ry Q q => by
  have e1 := sd_rep h1 rx
  have e2 := sd_rep h2 ry
  subst e1 e2
  exact ⟨hs, q.here k (.bl _) rfl⟩
theorem v_eqI {i j : Int} (ha : EvX W K ta Γ (.int i)) (hb : EvX W K tb Γ (.int j)) : EvX W K (tOp rEq ta tb) Γ (.bl (decide (i = j))) := by
  have h := v_opx ha hb (rv_eq (W := W) (K := K) (a := .int i) (b := .int j) rfl rfl rfl)
  have e : decide (sd (.int i) = sd (.int j)) = decide (i = j) := by
    show decide (V.int i = V.int j) = decide (i = j)
    by_cases q : i = j
    · subst q; simp
    · rw [decide_eq_false q, decide_eq_false (fun z => q (V.int.inj z))]
  rw [e] at h
  exact h
theorem v_neI {i j : Int} (ha : EvX W K ta Γ (.int i)) (hb : EvX W K tb Γ (.int j)) : EvX W K (tOp rNe ta tb) Γ (.bl (!decide (i = j))) := by
  have h := v_opx ha hb (rv_ne (W := W) (K := K) (a := .int i) (b := .int j) rfl rfl rfl)
  have e : decide (sd (.int i) = sd (.int j)) = decide (i = j) := by
    show decide (V.int i = V.int j) = decide (i = j)
    by_cases q : i = j
    · subst q; simp
    · rw [decide_eq_false q, decide_eq_false (fun z => q (V.int.inj z))]
  rw [e] at h
  exact h
theorem v_eqS {i j : Str} (ha : EvX W K ta Γ (.str i)) (hb : EvX W K tb Γ (.str j)) : EvX W K (tOp rEq ta tb) Γ (.bl (decide (i = j))) := by
  have h := v_opx ha hb (rv_eq (W := W) (K := K) (a := .str i) (b := .str j) rfl rfl rfl)
  have e : decide (sd (.str i) = sd (.str j)) = decide (i = j) := by
    show decide (V.str i = V.str j) = decide (i = j)
    by_cases q : i = j
    · subst q; simp
    · rw [decide_eq_false q, decide_eq_false (fun z => q (V.str.inj z))]
  rw [e] at h
  exact h
theorem v_eqB {i j : Bool} (ha : EvX W K ta Γ (.bl i)) (hb : EvX W K tb Γ (.bl j)) : EvX W K (tOp rEq ta tb) Γ (.bl (decide (i = j))) := by
  have h := v_opx ha hb (rv_eq (W := W) (K := K) (a := .bl i) (b := .bl j) rfl rfl rfl)
  have e : decide (sd (.bl i) = sd (.bl j)) = decide (i = j) := by
    show decide (V.bl i = V.bl j) = decide (i = j)
    by_cases q : i = j
    · subst q; simp
    · rw [decide_eq_false q, decide_eq_false (fun z => q (V.bl.inj z))]
  rw [e] at h
  exact h
theorem v_neB {i j : Bool} (ha : EvX W K ta Γ (.bl i)) (hb : EvX W K tb Γ (.bl j)) : EvX W K (tOp rNe ta tb) Γ (.bl (!decide (i = j))) := by
  have h := v_opx ha hb (rv_ne (W := W) (K := K) (a := .bl i) (b := .bl j) rfl rfl rfl)
  have e : decide (sd (.bl i) = sd (.bl j)) = decide (i = j) := by
    show decide (V.bl i = V.bl j) = decide (i = j)
    by_cases q : i = j
    · subst q; simp
    · rw [decide_eq_false q, decide_eq_false (fun z => q (V.bl.inj z))]
  rw [e] at h
  exact h
def isN : Dat → Bool
  | .non => true
  | _ => false
theorem v_isN (ha : Ev W K ta Γ P) (hp : ∀ d, P d → S (.bl (isN d))) : Ev W K (tIsN ta) Γ S := fun σ G H n k Q q =>
  ha σ G H n k _ fun x dx G2 H2 s px rx => by
    have e : decide (x = .non) = isN dx := by cases rx <;> rfl
    show Q (.bl (decide (x = .non))) H2
    rw [e]
    exact (q.step s).here (s.ok k) (.bl _) (hp dx px)
theorem v_isNx (ha : EvX W K ta Γ a) : EvX W K (tIsN ta) Γ (.bl (isN a)) := v_isN ha fun d e => by subst e; rfl
theorem v_notNx (ha : EvX W K ta Γ a) : EvX W K (tNotN ta) Γ (.bl (!(isN a))) := fun σ G H n k Q q =>
  ha σ G H n k _ fun x dx G2 H2 s px rx => by
    subst px
    have e : decide (x = .non) = isN dx := by cases rx <;> rfl
    show Q (.bl (!decide (x = .non))) H2
    rw [e]
    exact (q.step s).here (s.ok k) (.bl _) rfl

/-! ## tests -/
theorem b_test {P : Bool → Prop} (h : Ev W K te Γ fun d => ∃ b, d = .bl b ∧ P b) : EvB W K (tTest te) Γ P := fun σ G H n k Q q => h σ G H n k _ fun v d G2 H2 s ⟨b, e, p⟩ r => by
  subst e
  cases r
  exact ⟨b, rfl, q b G2 H2 s p⟩
theorem b_testx {b : Bool} (h : EvX W K te Γ (.bl b)) : EvBX W K (tTest te) Γ b := b_test (h.imp fun d e => ⟨b, e, rfl⟩)
theorem b_B {P : Bool → Prop} (h : Ev W K te Γ fun d => ∃ b, d = .bl b ∧ P b) : EvB W K (tB te) Γ P := fun σ G H n k Q q => h σ G H n k _ fun v d G2 H2 s ⟨b, e, p⟩ r => by
  subst e
  cases r
  exact ⟨b, rfl, q b G2 H2 s p⟩
theorem b_Bx {b : Bool} (h : EvX W K te Γ (.bl b)) : EvBX W K (tB te) Γ b := b_B (h.imp fun d e => ⟨b, e, rfl⟩)
theorem b_and {P R S : Bool → Prop} (h1 : EvB W K tt Γ P) (h2 : P true → EvB W K tu Γ R) (i : P false → S false) (j : ∀ b, R b → S b) : EvB W K (tAnd tt tu) Γ S := fun σ G H n k Q q =>
  h1 σ G H n k _ fun c G2 H2 s p => by
    cases c with
    | true =>
      show tu σ H2 Q
      exact h2 p σ G2 H2 (n.mono s.gg) (s.ok k) Q fun b G3 H3 t r => q b G3 H3 (s.trans t) (j b r)
    | false =>
      show Q false H2
      exact q false G2 H2 s (i p)
theorem b_andx {a b : Bool} (h1 : EvBX W K tt Γ a) (h2 : a = true → EvBX W K tu Γ b) : EvBX W K (tAnd tt tu) Γ (a && b) := by
  cases a with
  | true => exact b_and h1 (fun _ => h2 rfl) (fun e => nomatch e) (fun c e => e)
  | false => exact b_and (R := fun _ => False) h1 (fun e => nomatch e) (fun _ => rfl) (fun c e => e.elim)
theorem b_or {P R S : Bool → Prop} (h1 : EvB W K tt Γ P) (h2 : P false → EvB W K tu Γ R) (i : P true → S true) (j : ∀ b, R b → S b) : EvB W K (tOr tt tu) Γ S := fun σ G H n k Q q =>
  h1 σ G H n k _ fun c G2 H2 s p => by
    cases c with
    | false =>
      show tu σ H2 Q
      exact h2 p σ G2 H2 (n.mono s.gg) (s.ok k) Q fun b G3 H3 t r => q b G3 H3 (s.trans t) (j b r)
    | true =>
      show Q true H2
      exact q true G2 H2 s (i p)
theorem b_orx {a b : Bool} (h1 : EvBX W K tt Γ a) (h2 : a = false → EvBX W K tu Γ b) : EvBX W K (tOr tt tu) Γ (a || b) := by
  cases a with
  | false => exact b_or h1 (fun _ => h2 rfl) (fun e => nomatch e) (fun c e => e)
  | true => exact b_or (R := fun _ => False) h1 (fun e => nomatch e) (fun _ => rfl) (fun c e => e.elim)
theorem b_not {P : Bool → Prop} (h : EvB W K tt Γ fun b => P (!b)) : EvB W K (tNot tt) Γ P := fun σ G H n k Q q => h σ G H n k _ fun b G2 H2 s p => q _ G2 H2 s p
theorem b_notx {a : Bool} (h : EvBX W K tt Γ a) : EvBX W K (tNot tt) Γ (!a) := b_not (h.imp fun d e => by rw [e])
/-- and, or, not as values -/
theorem v_andx {a b : Bool} (h1 : EvX W K ta Γ (.bl a)) (h2 : a = true → EvX W K tb Γ (.bl b)) : EvX W K (tAndV ta tb) Γ (.bl (a && b)) := fun σ G H n k Q q => h1 σ G H n k _ fun v d G2 H2 s e r => by
  subst e
  cases r
  refine ⟨a, rfl, ?_⟩
  cases a with
  | true =>
    show tb σ H2 Q
    exact h2 rfl σ G2 H2 (n.mono s.gg) (s.ok k) Q (q.step s)
  | false =>
    show Q (.bl false) H2
    exact (q.step s).here (s.ok k) (.bl _) rfl
theorem v_orx {a b : Bool} (h1 : EvX W K ta Γ (.bl a)) (h2 : a = false → EvX W K tb Γ (.bl b)) : EvX W K (tOrV ta tb) Γ (.bl (a || b)) := fun σ G H n k Q q => h1 σ G H n k _ fun v d G2 H2 s e r => by
  subst e
  cases r
  refine ⟨a, rfl, ?_⟩
  cases a with
  | false =>
    show tb σ H2 Q
    exact h2 rfl σ G2 H2 (n.mono s.gg) (s.ok k) Q (q.step s)
  | true =>
    show Q (.bl true) H2
    exact (q.step s).here (s.ok k) (.bl _) rfl
theorem v_notx {a : Bool} (h1 : EvX W K ta Γ (.bl a)) : EvX W K (tNotV ta) Γ (.bl (!a)) := fun σ G H n k Q q => h1 σ G H n k _ fun v d G2 H2 s e r => by
  subst e
  cases r
  exact ⟨a, rfl, (q.step s).here (s.ok k) (.bl _) rfl⟩
theorem v_if {P : Bool → Prop} (h : EvB W K tt Γ P) (h1 : P true → Ev W K ta Γ R) (h2 : P false → Ev W K tb Γ R) : Ev W K (tIf tt ta tb) Γ R := fun σ G H n k Q q => h σ G H n k _ fun c G2 H2 s p => by
  cases c with
  | true =>
    show ta σ H2 Q
    exact h1 p σ G2 H2 (n.mono s.gg) (s.ok k) Q (q.step s)
  | false =>
    show tb σ H2 Q
    exact h2 p σ G2 H2 (n.mono s.gg) (s.ok k) Q (q.step s)
theorem v_ifx {c : Bool} (h : EvBX W K tt Γ c) (h1 : c = true → EvX W K ta Γ a) (h2 : c = false → EvX W K tb Γ b) : EvX W K (tIf tt ta tb) Γ (if c = true then a else b) := v_if h (fun e => by rw [← e]; exact h1 e.symm) (fun e => by rw [← e]; exact h2 e.symm)
/-- a chain of two comparisons of ints -/
theorem v_chain {r r' : R2} {x y z : Dat} {c1 c2 : Bool} (ha : EvX W K ta Γ x) (hb : EvX W K tb Γ y) (hc : EvX W K tc Γ z) (h1 : RV W K r x y (· = .bl c1)) (h2 : RV W K r' y z (· = .bl c2)) : EvX W K (tChain r r' ta tb tc) Γ (.bl (c1 && c2)) := fun σ G H n k Q q =>
  ha σ G H n k _ fun vx dx G2 H2 s2 ex rx => hb σ G2 H2 (n.mono s2.gg) (s2.ok k) _ fun vy dy G3 H3 s3 ey ry => by
    subst ex ey
    have k3 := s3.ok (s2.ok k)
    refine h1 G3 H3 vx vy k3 (rx.mono s3.gg) ry _ fun v4 d4 G4 H4 s4 e4 r4 => ?_
    subst e4
    cases r4
    refine ⟨c1, rfl, ?_⟩
    have s14 := (s2.trans s3).trans s4
    cases c1 with
    | true =>
      rw [if_pos rfl]
      refine hc σ G4 H4 (n.mono s14.gg) (s14.ok k) _ fun vz dz G5 H5 s5 ez rz => ?_
      subst ez
      refine h2 G5 H5 vy vz (s5.ok (s14.ok k)) (ry.mono (s4.gg.trans s5.gg)) rz Q ?_
      exact q.step (s14.trans s5)
    | false =>
      rw [if_neg Bool.false_ne_true]
      exact (q.step s14).here (s14.ok k) (.bl _) rfl
theorem r_le {i j : Int} : RV W K (rI0 fun i j => .bl (decide (i ≤ j))) (.int i) (.int j) (· = .bl (decide (i ≤ j))) := rv_I0 (g := fun i j => .bl (decide (i ≤ j))) fun _ => .bl _
theorem r_lt {i j : Int} : RV W K (rI0 fun i j => .bl (decide (i < j))) (.int i) (.int j) (· = .bl (decide (i < j))) := rv_I0 (g := fun i j => .bl (decide (i < j))) fun _ => .bl _

/-! ## arguments, displays -/
theorem a_nil : EvAX W K tNil Γ [] := fun σ G H n k Q q => q [] [] G H (Stp.refl k) rfl .nil
theorem a_cons {P : Dat → Prop} {R : List Dat → Prop} (h : Ev W K ta Γ P) (h2 : EvA W K tA Γ R) : EvA W K (tCons ta tA) Γ fun ds => ∃ d r, ds = d :: r ∧ P d ∧ R r := fun σ G H n k Q q =>
  h σ G H n k _ fun v d G2 H2 s p r => h2 σ G2 H2 (n.mono s.gg) (s.ok k) _ fun vs ds G3 H3 t pr rr => q _ _ G3 H3 (s.trans t) ⟨d, ds, rfl, p, pr⟩ (.cons (r.mono t.gg) rr)
theorem a_consx {ds : List Dat} (h : EvX W K ta Γ d) (h2 : EvAX W K tA Γ ds) : EvAX W K (tCons ta tA) Γ (d :: ds) := fun σ G H n k Q q =>
  h σ G H n k _ fun v d G2 H2 s p r => h2 σ G2 H2 (n.mono s.gg) (s.ok k) _ fun vs ds G3 H3 t pr rr => q _ _ G3 H3 (s.trans t) (by rw [p, pr]) (.cons (r.mono t.gg) rr)
theorem EvA.imp {P R : List Dat → Prop} (h : EvA W K tA Γ P) (i : ∀ d, P d → R d) : EvA W K tA Γ R := fun σ G H n k Q q => h σ G H n k Q fun v d G2 H2 s p r => q v d G2 H2 s (i d p) r
theorem sz_of {n : Nat} (h : n ≤ 100000) : n ≤ sizeLine := Nat.le_trans h (by decide)
theorem sz_lt {n : Nat} (h : n < 100000) : n < sizeLine := Nat.lt_of_lt_of_le h (by decide)
theorem v_tup {P : List Dat → Prop} (h : EvA W K tA Γ P) (hl : ∀ ds, P ds → ds.length ≤ 100000) (i : ∀ ds, P ds → S (.tup ds)) : Ev W K (tTup tA) Γ S := fun σ G H n k Q q =>
  h σ G H n k _ fun vs ds G2 H2 s p r => ⟨by rw [r.length]; exact sz_of (hl ds p), fun a ha => q _ (.tup ds) _ _ (s.trans (Stp.new (s.ok k) ha)) (i ds p) (.tup (t_of upd_same) (r.mono (Stp.new (s.ok k) (W := W) ha).gg))⟩
theorem v_tupx {ds : List Dat} (h : EvAX W K tA Γ ds) (hl : ds.length ≤ 100000) : EvX W K (tTup tA) Γ (.tup ds) := v_tup h (fun _ e => by rw [e]; exact hl) (fun _ e => by rw [e])
theorem v_lst {P : List Dat → Prop} (h : EvA W K tA Γ P) (hl : ∀ ds, P ds → ds.length ≤ 100000) (i : ∀ ds, P ds → S (.lst ds)) : Ev W K (tLst tA) Γ S := fun σ G H n k Q q =>
  h σ G H n k _ fun vs ds G2 H2 s p r => ⟨by rw [r.length]; exact sz_of (hl ds p), fun a ha => q _ (.lst ds) _ _ (s.trans (Stp.new (s.ok k) ha)) (i ds p) (.lst (l_of upd_same) (r.mono (Stp.new (s.ok k) (W := W) ha).gg))⟩
theorem v_lstx {ds : List Dat} (h : EvAX W K tA Γ ds) (hl : ds.length ≤ 100000) : EvX W K (tLst tA) Γ (.lst ds) := v_lst h (fun _ e => by rw [e]; exact hl) (fun _ e => by rw [e])
theorem n_lst {P : List Dat → Prop} (h : EvA W K tA Γ P) (hl : ∀ ds, P ds → ds.length ≤ 100000) : EvN W K (tLst tA) Γ P := fun σ G H n k Q q =>
  h σ G H n k _ fun vs ds G2 H2 s p r => ⟨by rw [r.length]; exact sz_of (hl ds p), fun a ha => by
    have g2 : G2 a = none := by
      cases e : G2 a with
      | none => rfl
      | some u =>
        rw [s.gh a u e] at ha
        cases ha
    have h0 : H a = none := by
      cases e : H a with
      | none => rfl
      | some u =>
        by_cases hm : W.m a
        · obtain ⟨z, hz⟩ := W.tr s.inv hm
          rw [hz] at ha
          cases ha
        · rw [s.hh a u hm e] at ha
          cases ha
    exact q a vs ds G2 _ (s.trans (Stp.grow (s.ok k) (Ex.new ha))) h0 g2 upd_same r p⟩
/-- a new list, known from now on -/
theorem EvN.ev {P : List Dat → Prop} (h : EvN W K te Γ P) (i : ∀ ds, P ds → S (.lst ds)) : Ev W K te Γ S := fun σ G H n k Q q =>
  h σ G H n k _ fun p xs ds G2 H2 s h0 g2 h2 r pd => by
    have gg : Ex G2 (upd G2 p (.lst xs)) := Ex.new g2
    refine q _ (.lst ds) (upd G2 p (.lst xs)) H2 ⟨s.gg.trans gg, fun a o e => ?_, s.hh, fun a o e => ?_, s.inv⟩ (i ds pd) (.lst (l_of upd_same) (r.mono gg))
    · by_cases ea : a = p
      · subst ea
        rw [upd_same] at e
        rw [h2]
        exact e
      · rw [upd_ne ea] at e
        exact s.gh a o e
    · by_cases ea : a = p
      · subst ea
        exact .inr h0
      · rw [upd_ne ea] at e
        exact s.nw a o e

/-! ## subscripts, slices -/
theorem rv_ixL {ds : List Dat} {j : Nat} (h : ds[j]? = some d) : RV W K (rIxL K) (.lst ds) (.int (j : Int)) (· = d) := fun G H x y k rx ry Q q => by
  obtain ⟨a, xs, rfl, hs, r⟩ := rx.lst_inv
  cases ry
  obtain ⟨v, h1, h2⟩ := r.get h
  exact ⟨a, xs, (j : Int), v, rfl, rfl, ex_l k.ex hs, atI_nat h1, q.here k h2 rfl⟩
theorem rv_ixT {ds : List Dat} {j : Nat} (h : ds[j]? = some d) : RV W K (rIxT K) (.tup ds) (.int (j : Int)) (· = d) := fun G H x y k rx ry Q q => by
  obtain ⟨a, xs, rfl, hs, r⟩ := rx.tup_inv
  cases ry
  obtain ⟨v, h1, h2⟩ := r.get h
  exact ⟨a, xs, (j : Int), v, rfl, rfl, ex_t k.ex hs, atI_nat h1, q.here k h2 rfl⟩
theorem v_ixL {ds : List Dat} {i : Int} {j : Nat} (ha : EvX W K ta Γ (.lst ds)) (hb : EvX W K tb Γ (.int i)) (e : i = (j : Int)) (h : ds[j]? = some d) : EvX W K (tOp (rIxL K) ta tb) Γ d := v_opx ha (e ▸ hb) (rv_ixL h)
theorem v_ixT {ds : List Dat} {i : Int} {j : Nat} (ha : EvX W K ta Γ (.tup ds)) (hb : EvX W K tb Γ (.int i)) (e : i = (j : Int)) (h : ds[j]? = some d) : EvX W K (tOp (rIxT K) ta tb) Γ d := v_opx ha (e ▸ hb) (rv_ixT h)
theorem o_none : EvO W K tNoPart Γ (· = none) := fun σ G H n k Q q => q none G H (Stp.refl k) rfl
theorem o_some {i : Int} (h : EvX W K te Γ (.int i)) : EvO W K (tPart te) Γ (· = some i) := fun σ G H n k Q q => h σ G H n k _ fun v d G2 H2 s e r => by
  subst e
  cases r
  exact ⟨i, rfl, q _ G2 H2 s rfl⟩
/-- a slice by data -/
def cutD (ds : List Dat) (lo hi : Option Int) : List Dat := (ds.drop (HT.sIx ds.length 0 lo)).take (HT.sIx ds.length ds.length hi - HT.sIx ds.length 0 lo)
theorem cut_reps {G : Hp} {xs : List V} {ds : List Dat} (r : Reps K G xs ds) (lo hi : Option Int) : Reps K G (cutV xs lo hi) (cutD ds lo hi) := by
  unfold cutV cutD
  rw [r.length]
  exact (r.drop _).take _
theorem v_slT {tl th : TO} {ds : List Dat} {lo hi : Option Int} (h : EvX W K te Γ (.tup ds)) (h1 : EvO W K tl Γ (· = lo)) (h2 : EvO W K th Γ (· = hi)) : EvX W K (tSl (rSlA K) te tl th) Γ (.tup (cutD ds lo hi)) := fun σ G H n k Q q =>
  h σ G H n k _ fun v d G2 H2 s2 e r => by
    subst e
    refine h1 σ G2 H2 (n.mono s2.gg) (s2.ok k) _ fun o_lo G3 H3 s3 e3 => ?_
    subst e3
    have k3 := s3.ok (s2.ok k)
    refine h2 σ G3 H3 (n.mono (s2.gg.trans s3.gg)) k3 _ fun o_hi G4 H4 s4 e4 => ?_
    subst e4
    have s14 := (s2.trans s3).trans s4
    obtain ⟨a, xs, rfl, hs, r⟩ := (r.mono (s3.gg.trans s4.gg)).tup_inv
    have k4 := s14.ok k
    refine ⟨a, xs, rfl, ex_t k4.ex hs, fun w => ?_, fun _ p hp => ?_⟩
    · refine (q.step s14).here k4 (.tup hs ?_) rfl
      have e : cutD ds o_lo o_hi = ds := by
        unfold cutD
        rw [← r.length, w.1, w.2]
        simp [r.length]
      rw [e]
      exact r
    · exact (q.step s14) _ _ _ _ (Stp.new k4 hp) rfl (.tup (t_of upd_same) ((cut_reps r _ _).mono (Stp.new k4 hp (W := W)).gg))

theorem n_slL {tl th : TO} {ds : List Dat} {lo hi : Option Int} (h : EvX W K te Γ (.lst ds)) (h1 : EvO W K tl Γ (· = lo)) (h2 : EvO W K th Γ (· = hi)) : EvX W K (tSl (rSlL K) te tl th) Γ (.lst (cutD ds lo hi)) := fun σ G H n k Q q =>
  h σ G H n k _ fun v d G2 H2 s2 e r => by
    subst e
    refine h1 σ G2 H2 (n.mono s2.gg) (s2.ok k) _ fun o_lo G3 H3 s3 e3 => ?_
    subst e3
    have k3 := s3.ok (s2.ok k)
    refine h2 σ G3 H3 (n.mono (s2.gg.trans s3.gg)) k3 _ fun o_hi G4 H4 s4 e4 => ?_
    subst e4
    have s14 := (s2.trans s3).trans s4
    obtain ⟨a, xs, rfl, hs, r⟩ := (r.mono (s3.gg.trans s4.gg)).lst_inv
    have k4 := s14.ok k
    refine ⟨a, xs, rfl, ex_l k4.ex hs, fun p hp => ?_⟩
    exact (q.step s14) _ _ _ _ (Stp.new k4 hp) rfl (.lst (l_of upd_same) ((cut_reps r _ _).mono (Stp.new k4 hp (W := W)).gg))
theorem cutD_to (ds : List Dat) (n : Nat) : cutD ds none (some (n : Int)) = ds.take n := by
  unfold cutD
  rw [HT.sIx_none, HT.sIx_nat, List.drop_zero, Nat.sub_zero]
  by_cases h : n ≤ ds.length
  · rw [Nat.min_eq_left h]
  · rw [Nat.min_eq_right (by omega), List.take_of_length_le (Nat.le_refl _), List.take_of_length_le (by omega)]
theorem cutD_from (ds : List Dat) (n : Nat) : cutD ds (some (n : Int)) none = ds.drop n := by
  unfold cutD
  rw [HT.sIx_none, HT.sIx_nat]
  by_cases h : n ≤ ds.length
  · rw [Nat.min_eq_left h, List.take_of_length_le]
    rw [List.length_drop]
    exact Nat.le_refl _
  · rw [Nat.min_eq_right (by omega), List.drop_of_length_le (Nat.le_refl _), List.drop_of_length_le (by omega), List.take_nil]
/-! ## sums of tuples -/
theorem v_cat {xs ys : List Dat} (ha : EvX W K ta Γ (.tup xs)) (hb : EvX W K tb Γ (.tup ys)) (hz : xs.length + ys.length ≤ 100000) : EvX W K (tOp (rCatA K) ta tb) Γ (.tup (xs ++ ys)) := v_opx ha hb fun G H x y k rx ry Q q => by
  obtain ⟨a, vs, rfl, hs, r⟩ := rx.tup_inv
  obtain ⟨b, us, rfl, ht, t⟩ := ry.tup_inv
  refine ⟨a, b, vs, us, rfl, rfl, ex_t k.ex hs, ex_t k.ex ht, by rw [r.length, t.length]; exact sz_of hz, fun e => ?_, fun _ e => ?_, fun _ _ p hp => ?_⟩
  · subst e
    cases r
    exact q.here k (.tup ht t) rfl
  · subst e
    cases t
    rw [List.append_nil] at q
    exact q.here k (.tup hs r) rfl
  · exact q _ _ _ _ (Stp.new k hp) rfl (.tup (t_of upd_same) ((r.append t).mono (Stp.new k hp (W := W)).gg))
/-! ## built-ins -/
theorem v_cb {r : List V → Hp → VK → Prop} {P : List Dat → Prop} (h : EvA W K tA Γ P) (hr : ∀ ds, P ds → RC W K r ds S) : Ev W K (tCB r tA) Γ S := fun σ G H n k Q q =>
  h σ G H n k _ fun vs ds G2 H2 s p rr => hr ds p G2 H2 vs (s.ok k) rr Q (q.step s)
theorem v_cbx {r : List V → Hp → VK → Prop} {ds : List Dat} (h : EvAX W K tA Γ ds) (hr : RC W K r ds S) : Ev W K (tCB r tA) Γ S := v_cb h fun _ e => by rw [e]; exact hr
abbrev rLen (K : PySem.W.Frag) : List V → Hp → VK → Prop := fun xs H Q => ∃ p ys, xs = [.ref p] ∧ (SqL K H p ys ∨ SqT K H p ys) ∧ Q (.int ys.length) H
theorem v_lenT {ds : List Dat} (h : EvX W K ta Γ (.tup ds)) : EvX W K (tCB (rLen K) (tCons ta tNil)) Γ (.int (ds.length : Int)) := v_cbx (a_consx h a_nil) fun G H xs k r Q q => by
  cases r with
  | cons r r0 =>
    cases r0
    obtain ⟨a, vs, rfl, hs, r⟩ := r.tup_inv
    exact ⟨a, vs, rfl, .inr (ex_t k.ex hs), by rw [r.length]; exact q.here k (.int _) rfl⟩
theorem v_lenL {ds : List Dat} (h : EvX W K ta Γ (.lst ds)) : EvX W K (tCB (rLen K) (tCons ta tNil)) Γ (.int (ds.length : Int)) := v_cbx (a_consx h a_nil) fun G H xs k r Q q => by
  cases r with
  | cons r r0 =>
    cases r0
    obtain ⟨a, vs, rfl, hs, r⟩ := r.lst_inv
    exact ⟨a, vs, rfl, .inl (ex_l k.ex hs), by rw [r.length]; exact q.here k (.int _) rfl⟩
theorem v_tupleL {P : List Dat → Prop} (h : Ev W K te Γ fun d => ∃ ds, d = .lst ds ∧ S (.tup ds)) : Ev W K (tThen te (kTup K)) Γ S := fun σ G H n k Q q =>
  h σ G H n k _ fun v d G2 H2 s ⟨ds, e, p⟩ r => by
    subst e
    obtain ⟨a, vs, rfl, hs, r⟩ := r.lst_inv
    have k2 := s.ok k
    exact .inl ⟨a, vs, rfl, ex_l k2.ex hs, fun p' hp => (q.step s) _ _ _ _ (Stp.new k2 hp) p (.tup (t_of upd_same) (r.mono (Stp.new k2 hp (W := W)).gg))⟩
theorem v_tupleLx {ds : List Dat} (h : EvX W K te Γ (.lst ds)) : EvX W K (tThen te (kTup K)) Γ (.tup ds) := v_tupleL (P := fun _ => True) (h.imp fun d e => ⟨ds, e, rfl⟩)
theorem v_tupleTx {ds : List Dat} (h : EvX W K te Γ (.tup ds)) : EvX W K (tThen te (kTup K)) Γ (.tup ds) := fun σ G H n k Q q =>
  h σ G H n k _ fun v d G2 H2 s e r => by
    subst e
    obtain ⟨a, vs, rfl, hs, r⟩ := r.tup_inv
    have k2 := s.ok k
    exact .inr ⟨a, vs, rfl, ex_t k2.ex hs, (q.step s).here k2 (.tup hs r) rfl⟩
abbrev rLst (K : PySem.W.Frag) : List V → Hp → VK → Prop := fun xs H Q => ∃ p ys, xs = [.ref p] ∧ (SqL K H p ys ∨ SqT K H p ys) ∧ ∀ l, H l = none → Q (.ref l) (upd H l (.lst ys))
theorem back {G H G2 H2 : Hp} {a : Addr} (s : Stp W G H G2 H2) (ha : H2 a = none) : H a = none ∧ G2 a = none := by
  constructor
  · cases e : H a with
    | none => rfl
    | some u =>
      by_cases hm : W.m a
      · obtain ⟨z, hz⟩ := W.tr s.inv hm
        rw [hz] at ha
        cases ha
      · rw [s.hh a u hm e] at ha
        cases ha
  · cases e : G2 a with
    | none => rfl
    | some u =>
      rw [s.gh a u e] at ha
      cases ha
theorem n_listL {ds : List Dat} (h : EvX W K ta Γ (.lst ds)) : EvN W K (tCB (rLst K) (tCons ta tNil)) Γ (· = ds) := fun σ G H n k Q q =>
  a_consx h a_nil σ G H n k _ fun vs es G2 H2 s e r => by
    subst e
    cases r with
    | cons r r0 =>
      cases r0
      obtain ⟨a, vs, rfl, hs, r⟩ := r.lst_inv
      exact ⟨a, vs, rfl, .inl (ex_l (s.ok k).ex hs), fun l hl => q l vs ds G2 _ (s.trans (Stp.grow (s.ok k) (Ex.new hl))) (back s hl).1 (back s hl).2 upd_same r rfl⟩
theorem n_listT {ds : List Dat} (h : EvX W K ta Γ (.tup ds)) : EvN W K (tCB (rLst K) (tCons ta tNil)) Γ (· = ds) := fun σ G H n k Q q =>
  a_consx h a_nil σ G H n k _ fun vs es G2 H2 s e r => by
    subst e
    cases r with
    | cons r r0 =>
      cases r0
      obtain ⟨a, vs, rfl, hs, r⟩ := r.tup_inv
      exact ⟨a, vs, rfl, .inr (ex_t (s.ok k).ex hs), fun l hl => q l vs ds G2 _ (s.trans (Stp.grow (s.ok k) (Ex.new hl))) (back s hl).1 (back s hl).2 upd_same r rfl⟩
abbrev rInt1 : List V → Hp → VK → Prop := fun xs H Q => (∃ i, xs = [.int i] ∧ Q (.int i) H) ∨ ∃ k, xs = [.bl k] ∧ Q (.int (if k then 1 else 0)) H
theorem v_int1 {i : Int} (h : EvX W K ta Γ (.int i)) : EvX W K (tCB rInt1 (tCons ta tNil)) Γ (.int i) := v_cbx (a_consx h a_nil) fun G H xs k r Q q => by
  cases r with
  | cons r r0 =>
    cases r0
    cases r
    exact .inl ⟨i, rfl, q.here k (.int _) rfl⟩
/-- all(..) of a list of truth values -/
theorem reps_bools {G : Hp} : ∀ {bs : List Bool} {xs : List V}, Reps K G xs (bs.map Dat.bl) → xs = bs.map V.bl
  | [], _, h => by
    cases h
    rfl
  | b :: bs, _, h => by
    cases h with
    | cons h r =>
      cases h
      rw [reps_bools (bs := bs) r]
      rfl
theorem v_all {bs : List Bool} (h : EvX W K ta Γ (.lst (bs.map Dat.bl))) : EvX W K (tCB (rAll K) (tCons ta tNil)) Γ (.bl (bs.all id)) := v_cbx (a_consx h a_nil) fun G H xs k r Q q => by
  cases r with
  | cons r r0 =>
    cases r0
    obtain ⟨a, vs, rfl, hs, r⟩ := r.lst_inv
    rw [reps_bools r] at hs
    exact ⟨a, bs, rfl, ex_l k.ex hs, q.here k (.bl _) rfl⟩
/-- isinstance(x, T) -/
def tyN : Dat → String
  | .non => "NoneType" | .bl _ => "bool" | .int _ => "int" | .str _ => "str" | .tup _ => "tuple" | .lst _ => "list" | _ => "object"
def typed : Dat → Bool
  | .adr _ => false | .obj _ _ => false | .dct _ => false | _ => true
theorem ty_t {H : Hp} {a : Addr} {xs : List V} (h : SqT K H a xs) : TyX K H (.ref a) (.type "tuple") := by
  rcases h with (h | ⟨o, h⟩) | ⟨o, its, n, h, c, _⟩
  · exact .base (.tup h)
  · exact .fTuple h
  · exact .kTuple h c
theorem ty_l {H : Hp} {a : Addr} {xs : List V} (h : SqL K H a xs) : TyX K H (.ref a) (.type "list") := by
  rcases h with (h | ⟨o, h⟩) | ⟨o, its, n, h, c, _⟩
  · exact .base (.lst h)
  · exact .base (.frz h)
  · exact .kList h c
theorem ty_x {G H : Hp} {v : V} {d : Dat} (e : Ex G H) (ht : typed d = true) (r : Rep K G v d) : TyX K H v (.type (tyN d)) := by
  cases r with
  | non => exact .base .non
  | bl b => exact .base (.bl b)
  | int i => exact .base (.int i)
  | str x => exact .base (.str x)
  | adr a => cases ht
  | tup h _ => exact ty_t (ex_t e h)
  | lst h _ => exact ty_l (ex_l e h)
  | obj _ _ => cases ht
  | dct _ _ => cases ht
theorem v_isi {T : String} {c : Bool} (h : EvX W K ta Γ d) (ht : typed d = true) (hk : PySem.W.kitOne K (.type (tyN d)) (.type T) = some c) : EvX W K (tCB (rIsi K) (tCons ta (tCons (tC (.ty T)) tNil))) Γ (.bl c) := fun σ G H n k Q q =>
  h σ G H n k _ fun v d G2 H2 s e r => by
    subst e
    exact ⟨v, .ty T, _, _, c, rfl, .ty T, ty_x (s.ok k).ex ht r, hk, (q.step s).here (s.ok k) (.bl _) rfl⟩
end
end Ly

set_option maxHeartbeats 2000000
namespace Ly
open PySem L2

/-! ## promises -/
/-- what a def's arguments are, and what its value is -/
abbrev Sig := List Dat → (Dat → Prop) → Prop
def spOf (W : Wd) (K : PySem.W.Frag) (A : Sig) : Sp := fun vs H Q _ => ∃ G ds P, Ok W G H ∧ Reps K G vs ds ∧ A ds P ∧ Go W K G H P Q
theorem spOf_len {W : Wd} {K : PySem.W.Frag} {A : Sig} {n : Nat} (h : ∀ ds P, A ds P → ds.length = n) : ∀ vs H Q E, spOf W K A vs H Q E → vs.length = n := fun vs H Q E ⟨G, ds, P, _, r, a, _⟩ => r.length.trans (h ds P a)

section
variable {W : Wd} {K : PySem.W.Frag} {Γ : List (Option Dat)} {ta tb tc te : TE} {tt tu : TT} {tA : TA} {P R S : Dat → Prop} {a b d e : Dat} {G H G2 H2 : Hp}
/-- a call of a def whose promise is over no world, and over the own one -/
theorem v_call0 {A : Sig} {E : XK} {R : List Dat → Prop} (h : EvA W K tA Γ R) (hs : ∀ ds, R ds → A ds P) : Ev W K (tCall (spOf Wd0 K A) [] E tA) Γ P := fun σ G H n k Q q =>
  h σ G H n k _ fun vs ds G2 H2 s p r => by
    rw [List.append_nil]
    exact ⟨G2, ds, P, (s.ok k).pure, r, hs ds p, fun v d G3 H3 t pd rd => q v d G3 H3 (s.trans (Stp.of0 (s.ok k) t)) pd rd⟩
theorem v_callW {A : Sig} {E : XK} {R : List Dat → Prop} (h : EvA W K tA Γ R) (hs : ∀ ds, R ds → A ds P) : Ev W K (tCall (spOf W K A) [] E tA) Γ P := fun σ G H n k Q q =>
  h σ G H n k _ fun vs ds G2 H2 s p r => by
    rw [List.append_nil]
    exact ⟨G2, ds, P, s.ok k, r, hs ds p, q.step s⟩
theorem v_call0x {A : Sig} {E : XK} {ds : List Dat} (h : EvAX W K tA Γ ds) (hs : A ds P) : Ev W K (tCall (spOf Wd0 K A) [] E tA) Γ P := v_call0 h fun _ e => by rw [e]; exact hs
theorem v_callWx {A : Sig} {E : XK} {ds : List Dat} (h : EvAX W K tA Γ ds) (hs : A ds P) : Ev W K (tCall (spOf W K A) [] E tA) Γ P := v_callW h fun _ e => by rw [e]; exact hs

/-! ## the state of a body -/
/-- a list of the body's own, at l: its items ds -/
structure Own (W : Wd) (K : PySem.W.Frag) (H0 G H : Hp) (l : Addr) (ds : List Dat) : Prop where
  g : G l = none
  h0 : H0 l = none
  m : ¬ W.m l
  at' : ∃ xs, H l = some (.lst xs) ∧ Reps K G xs ds
structure S4 (W : Wd) (K : PySem.W.Frag) (G1 G0 H0 : Hp) (Γ : List (Option Dat)) (O : List (Addr × List Dat)) (σ : L2.St) (G H : Hp) : Prop where
  env : Env K G σ Γ
  ok : Ok W G H
  stp : Stp W G0 H0 G H
  own : ∀ l ds, (l, ds) ∈ O → Own W K H0 G H l ds
  nd : (O.map (·.1)).Nodup
  fr : Ex G1 G
variable {G1 G0 H0 : Hp} {O O' : List (Addr × List Dat)} {σ : L2.St} {D : Ends} {tz ts t1 t2 : TS}
theorem Own.step {l : Addr} {ds : List Dat} (o : Own W K H0 G H l ds) (s : Stp W G H G2 H2) : Own W K H0 G2 H2 l ds := by
  obtain ⟨xs, h1, h2⟩ := o.at'
  refine ⟨?_, o.h0, o.m, xs, s.hh l _ o.m h1, h2.mono s.gg⟩
  cases e : G2 l with
  | none => rfl
  | some u =>
    rcases s.nw l u e with q | q
    · rw [o.g] at q
      cases q
    · rw [h1] at q
      cases q
theorem S4.step (S : S4 W K G1 G0 H0 Γ O σ G H) (s : Stp W G H G2 H2) : S4 W K G1 G0 H0 Γ O σ G2 H2 :=
  ⟨S.env.mono s.gg, s.ok S.ok, S.stp.trans s, fun l ds h => (S.own l ds h).step s, S.nd, S.fr.trans s.gg⟩
theorem S4.weak {Γ' : List (Option Dat)} (w : Wk Γ Γ') (S : S4 W K G1 G0 H0 Γ O σ G H) : S4 W K G1 G0 H0 Γ' O σ G H := ⟨S.env.weak w, S.ok, S.stp, S.own, S.nd, S.fr⟩
theorem S4.set {i : Nat} {v : V} (r : Rep K G v d) (S : S4 W K G1 G0 H0 Γ O σ G H) : S4 W K G1 G0 H0 (Γ.set i (some d)) O (σ.set i (some v)) G H := ⟨S.env.set r, S.ok, S.stp, S.own, S.nd, S.fr⟩
theorem S4.start {N : List Str} {vs : List V} {ds : List Dat} (k : Ok W G H) (r : Reps K G vs ds) : S4 W K G G H (ds.map some ++ List.replicate (N.length - ds.length) Option.none) [] (L2.start N vs) G H :=
  ⟨env_start r, k, Stp.refl k, (fun _ _ h => nomatch h), List.nodup_nil, Ex.refl _⟩

/-! ### statements -/
theorem g_set {i : Nat} (h : Ev W K te Γ P) (S : S4 W K G1 G0 H0 Γ O σ G H) (k : ∀ d σ2 G2 H2, P d → S4 W K G1 G0 H0 (Γ.set i (some d)) O σ2 G2 H2 → D.nx σ2 H2) : tAsg te (gName i) D σ H :=
  h σ G H S.env S.ok _ fun v d G2 H2 s p r => k d _ G2 H2 p ((S.step s).set r)
theorem q_set {i : Nat} (h : Ev W K te Γ P) (S : S4 W K G1 G0 H0 Γ O σ G H) (k : ∀ d σ2 G2 H2, P d → S4 W K G1 G0 H0 (Γ.set i (some d)) O σ2 G2 H2 → tz D σ2 H2) : tSeq (tAsg te (gName i)) tz D σ H := g_set (D := { D with nx := tz D }) h S k
theorem g_setx {i : Nat} (h : EvX W K te Γ d) (S : S4 W K G1 G0 H0 Γ O σ G H) (k : ∀ σ2 G2 H2, S4 W K G1 G0 H0 (Γ.set i (some d)) O σ2 G2 H2 → D.nx σ2 H2) : tAsg te (gName i) D σ H := g_set h S fun d' σ2 G2 H2 e => by
  subst e
  exact k σ2 G2 H2
theorem q_setx {i : Nat} (h : EvX W K te Γ d) (S : S4 W K G1 G0 H0 Γ O σ G H) (k : ∀ σ2 G2 H2, S4 W K G1 G0 H0 (Γ.set i (some d)) O σ2 G2 H2 → tz D σ2 H2) : tSeq (tAsg te (gName i)) tz D σ H := g_setx (D := { D with nx := tz D }) h S k
/-- x = a new list, to be the body's own -/
theorem g_setN {i : Nat} {P : List Dat → Prop} (h : EvN W K te Γ P) (S : S4 W K G1 G0 H0 Γ O σ G H) (k : ∀ l ds σ2 G2 H2, P ds → S4 W K G1 G0 H0 (Γ.set i (some (.adr l))) ((l, ds) :: O) σ2 G2 H2 → D.nx σ2 H2) : tAsg te (gName i) D σ H :=
  h σ G H S.env S.ok _ fun p xs ds G2 H2 s h0 g2 h2 r pd => by
    have S2 := (S.step s).set (i := i) (Rep.adr p)
    refine k p ds _ G2 H2 pd ⟨S2.env, S2.ok, S2.stp, fun l es hm => ?_, ?_, S2.fr⟩
    · rcases List.mem_cons.mp hm with e | hm
      · cases e
        refine ⟨g2, ?_, fun hmm => ?_, xs, h2, r⟩
        · exact (back S.stp h0).1
        · obtain ⟨z, hz⟩ := W.tr S.ok.inv hmm
          rw [hz] at h0
          cases h0
      · exact S2.own l es hm
    · rw [List.map_cons, List.nodup_cons]
      refine ⟨fun hm => ?_, S.nd⟩
      obtain ⟨⟨l, es⟩, h1, e⟩ := List.mem_map.mp hm
      have e : l = p := e
      subst e
      obtain ⟨ys, hy, _⟩ := (S.own _ _ h1).at'
      rw [hy] at h0
      cases h0

theorem q_setN {i : Nat} {P : List Dat → Prop} (h : EvN W K te Γ P) (S : S4 W K G1 G0 H0 Γ O σ G H) (k : ∀ l ds σ2 G2 H2, P ds → S4 W K G1 G0 H0 (Γ.set i (some (.adr l))) ((l, ds) :: O) σ2 G2 H2 → tz D σ2 H2) : tSeq (tAsg te (gName i)) tz D σ H := g_setN (D := { D with nx := tz D }) h S k
theorem g_ret (h : Ev W K te Γ P) (S : S4 W K G1 G0 H0 Γ O σ G H) (k : Go W K G0 H0 P D.rt) : tRet te D σ H :=
  h σ G H S.env S.ok _ fun v d G2 H2 s p r => k v d G2 H2 (S.stp.trans s) p r
theorem g_drop (h : Ev W K te Γ P) (S : S4 W K G1 G0 H0 Γ O σ G H) (k : ∀ G2 H2, S4 W K G1 G0 H0 Γ O σ G2 H2 → D.nx σ H2) : tDrop te D σ H :=
  h σ G H S.env S.ok _ fun v d G2 H2 s p r => k G2 H2 (S.step s)
theorem q_drop (h : Ev W K te Γ P) (S : S4 W K G1 G0 H0 Γ O σ G H) (k : ∀ G2 H2, S4 W K G1 G0 H0 Γ O σ G2 H2 → tz D σ H2) : tSeq (tDrop te) tz D σ H := g_drop (D := { D with nx := tz D }) h S k
theorem g_if {P : Bool → Prop} (h : EvB W K tt Γ P) (S : S4 W K G1 G0 H0 Γ O σ G H) (k1 : P true → ∀ G2 H2, S4 W K G1 G0 H0 Γ O σ G2 H2 → t1 D σ H2) (k2 : P false → ∀ G2 H2, S4 W K G1 G0 H0 Γ O σ G2 H2 → t2 D σ H2) : tIfS tt t1 t2 D σ H :=
  h σ G H S.env S.ok _ fun b G2 H2 s p => by
    cases b with
    | true =>
      show t1 D σ H2
      exact k1 p G2 H2 (S.step s)
    | false =>
      show t2 D σ H2
      exact k2 p G2 H2 (S.step s)
theorem q_if {P : Bool → Prop} (h : EvB W K tt Γ P) (S : S4 W K G1 G0 H0 Γ O σ G H) (k1 : P true → ∀ G2 H2, S4 W K G1 G0 H0 Γ O σ G2 H2 → t1 { D with nx := tz D } σ H2) (k2 : P false → ∀ G2 H2, S4 W K G1 G0 H0 Γ O σ G2 H2 → t2 { D with nx := tz D } σ H2) : tSeq (tIfS tt t1 t2) tz D σ H := g_if (D := { D with nx := tz D }) h S k1 k2
theorem q_when {P : Bool → Prop} (h : EvB W K tt Γ P) (S : S4 W K G1 G0 H0 Γ O σ G H) (k1 : P true → ∀ G2 H2, S4 W K G1 G0 H0 Γ O σ G2 H2 → t1 { D with nx := tz D } σ H2) (k2 : P false → ∀ G2 H2, S4 W K G1 G0 H0 Γ O σ G2 H2 → tz D σ H2) : tSeq (tIfS tt t1 tNext) tz D σ H := g_if (D := { D with nx := tz D }) h S k1 k2
/-- a statement, then the rest from a word between them -/
theorem q_cut {tu : TS} (M : L2.St → Hp → Prop) (h : tu { D with nx := M } σ H) (k : ∀ σ' H', M σ' H' → tz D σ' H') : Evl.tCut tu tz D σ H := ⟨M, h, k⟩

/-! ### own lists -/
/-- the own list is known from now on -/
theorem S4.keepX {l : Addr} {ds : List Dat} {i : Nat} (hi : Γ[i]? = some (some (.adr l))) (S : S4 W K G1 G0 H0 Γ ((l, ds) :: O) σ G H) : ∃ G2, S4 W K G1 G0 H0 (Γ.set i (some (.lst ds))) O σ G2 H ∧ ∃ xs, G2 l = some (.lst xs) ∧ Reps K G2 xs ds := by
  have o := S.own l ds List.mem_cons_self
  obtain ⟨xs, h1, h2⟩ := o.at'
  have gg : Ex G (upd G l (.lst xs)) := Ex.new o.g
  have s : Stp W G0 H0 (upd G l (.lst xs)) H := ⟨S.stp.gg.trans gg, fun a u e => by
      by_cases ea : a = l
      · subst ea
        rw [upd_same] at e
        rw [h1]
        exact e
      · rw [upd_ne ea] at e
        exact S.ok.ex a u e, S.stp.hh, fun a u e => by
      by_cases ea : a = l
      · subst ea
        exact .inr o.h0
      · rw [upd_ne ea] at e
        exact S.stp.nw a u e, S.stp.inv⟩
  refine ⟨upd G l (.lst xs), ⟨?_, ⟨s.gh, s.inv, fun a ha => ?_⟩, s, fun l2 es hm => ?_, ?_, S.fr.trans gg⟩, xs, upd_same, h2.mono gg⟩
  · obtain ⟨v, e1, e2⟩ := S.env.at' i _ hi
    have e3 := e2.adr_inv
    subst e3
    have q : Env K (upd G l (.lst xs)) (σ.set i (some (.ref l))) (Γ.set i (some (.lst ds))) := (S.env.mono gg).set (.lst (l_of upd_same) (h2.mono gg))
    have e4 : σ.set i (some (.ref l)) = σ := by
      apply List.ext_getElem?
      intro j
      by_cases hj : i = j
      · subst hj
        have hlt : i < σ.length := by
          rcases Nat.lt_or_ge i σ.length with q | q
          · exact q
          · rw [List.getElem?_eq_none q] at e1
            cases e1
        rw [List.getElem?_set_self hlt, e1]
      · rw [List.getElem?_set_ne hj]
    rw [e4] at q
    exact q
  · have ne : a ≠ l := fun e => o.m (e ▸ ha)
    rw [upd_ne ne]
    exact S.ok.off a ha
  · have ne : l2 ≠ l := fun e => by
      have nd := S.nd
      rw [List.map_cons, List.nodup_cons] at nd
      subst e
      exact nd.1 (List.mem_map.mpr ⟨(l2, es), hm, rfl⟩)
    have o2 := S.own l2 es (List.mem_cons_of_mem _ hm)
    obtain ⟨ys, y1, y2⟩ := o2.at'
    exact ⟨by rw [upd_ne ne]; exact o2.g, o2.h0, o2.m, ys, y1, y2.mono gg⟩
  · have nd := S.nd
    rw [List.map_cons, List.nodup_cons] at nd
    exact nd.2
theorem S4.keep {l : Addr} {ds : List Dat} {i : Nat} (hi : Γ[i]? = some (some (.adr l))) (S : S4 W K G1 G0 H0 Γ ((l, ds) :: O) σ G H) : ∃ G2, S4 W K G1 G0 H0 (Γ.set i (some (.lst ds))) O σ G2 H := by
  obtain ⟨G2, S2, _⟩ := S4.keepX hi S
  exact ⟨G2, S2⟩
/-- the own list at l is changed -/
theorem S4.put {l : Addr} {ds es : List Dat} {ys : List V} (S : S4 W K G1 G0 H0 Γ ((l, ds) :: O) σ G H) (r : Reps K G ys es) : S4 W K G1 G0 H0 Γ ((l, es) :: O) σ G (upd H l (.lst ys)) := by
  have o := S.own l ds List.mem_cons_self
  obtain ⟨xs, h1, h2⟩ := o.at'
  have eg : Ex G (upd H l (.lst ys)) := fun a u e => by
    rw [upd_ne (ne_of_none e o.g)]
    exact S.ok.ex a u e
  have inv : W.I (upd H l (.lst ys)) := W.loc S.ok.inv fun a ha => upd_ne fun e => o.m (e ▸ ha)
  refine ⟨S.env, ⟨eg, inv, S.ok.off⟩, ⟨S.stp.gg, eg, fun a u hm e => ?_, S.stp.nw, inv⟩, fun l2 zs hm => ?_, S.nd, S.fr⟩
  · rw [upd_ne (ne_of_none e o.h0)]
    exact S.stp.hh a u hm e
  · rcases List.mem_cons.mp hm with e | hm'
    · cases e
      exact ⟨o.g, o.h0, o.m, ys, upd_same, r⟩
    · have ne : l2 ≠ l := fun e => by
        have nd := S.nd
        rw [List.map_cons, List.nodup_cons] at nd
        subst e
        exact nd.1 (List.mem_map.mpr ⟨(l2, zs), hm', rfl⟩)
      have o2 := S.own l2 zs (List.mem_cons_of_mem _ hm')
      obtain ⟨y, y1, y2⟩ := o2.at'
      exact ⟨o2.g, o2.h0, o2.m, y, by rw [upd_ne ne]; exact y1, y2⟩

/-- xs.append(e), xs the own list -/
theorem g_app {l : Addr} {ds : List Dat} (ho : EvX W K ta Γ (.adr l)) (h : Ev W K te Γ P) (S : S4 W K G1 G0 H0 Γ ((l, ds) :: O) σ G H) (hz : ds.length < 100000) (k : ∀ d G2 H2, P d → S4 W K G1 G0 H0 Γ ((l, ds ++ [d]) :: O) σ G2 H2 → D.nx σ H2) :
    tDrop (tBM K "list" rAppend ta (tCons te tNil)) D σ H := ho σ G H S.env S.ok _ fun v d G2 H2 s e r => by
  subst e
  cases r
  have S2 := S.step s
  obtain ⟨xs, h1, _⟩ := (S2.own l ds List.mem_cons_self).at'
  refine ⟨.inl ⟨rfl, xs, l_of h1⟩, ?_⟩
  refine h σ G2 H2 S2.env S2.ok _ fun y dy G3 H3 s3 py ry => ?_
  have S3 := S2.step s3
  obtain ⟨ys, h3, h4⟩ := (S3.own l ds List.mem_cons_self).at'
  refine ⟨l, ys, y, rfl, rfl, h3, by rw [h4.length]; exact sz_lt hz, ?_⟩
  exact k dy G3 _ py (S3.put (h4.append (.cons ry .nil)))
theorem q_app {l : Addr} {ds : List Dat} (ho : EvX W K ta Γ (.adr l)) (h : Ev W K te Γ P) (S : S4 W K G1 G0 H0 Γ ((l, ds) :: O) σ G H) (hz : ds.length < 100000) (k : ∀ d G2 H2, P d → S4 W K G1 G0 H0 Γ ((l, ds ++ [d]) :: O) σ G2 H2 → tz D σ H2) :
    tSeq (tDrop (tBM K "list" rAppend ta (tCons te tNil))) tz D σ H := g_app (D := { D with nx := tz D }) ho h S hz k
/-- x, y = divmod(..) and the like: a tuple of n values is taken apart; the slots js -/
def setsG (Γ : List (Option Dat)) : List Nat → List Dat → List (Option Dat)
  | j :: js, d :: ds => setsG (Γ.set j (some d)) js ds
  | _, _ => Γ
def gNames : List Nat → TGs
  | [] => gNil
  | j :: js => gCons (gName j) (gNames js)
theorem gNames_run {js : List Nat} {Q : L2.St → Hp → Prop} : ∀ {js : List Nat} {xs : List V} {ds : List Dat} {Γ : List (Option Dat)} {σ : L2.St}, Reps K G xs ds → js.length = ds.length → S4 W K G1 G0 H0 Γ O σ G H → (∀ σ2, S4 W K G1 G0 H0 (setsG Γ js ds) O σ2 G H → Q σ2 H) → gNames js xs σ H Q
  | [], _, _, _, _, .nil, _, S, k => ⟨rfl, k _ S⟩
  | j :: js, _, _, _, _, .nil, hl, _, _ => by cases hl
  | [], _, _, _, _, .cons _ _, hl, _, _ => by cases hl
  | j :: js, _, _, _, _, .cons (v := v) (vs := vs) r rs, hl, S, k => ⟨v, vs, rfl, gNames_run (js := js) rs (by simpa using hl) (S.set r) k⟩
theorem g_tup {js : List Nat} {n : Nat} {ds : List Dat} (h : EvX W K te Γ (.tup ds)) (hn : ds.length = n) (hj : js.length = n) (S : S4 W K G1 G0 H0 Γ O σ G H) (k : ∀ σ2 G2 H2, S4 W K G1 G0 H0 (setsG Γ js ds) O σ2 G2 H2 → D.nx σ2 H2) : tAsg te (gTup K n (gNames js)) D σ H :=
  h σ G H S.env S.ok _ fun v d G2 H2 s e r => by
    subst e
    obtain ⟨a, xs, rfl, hs, r⟩ := r.tup_inv
    have S2 := S.step s
    exact ⟨a, xs, rfl, ex_t S2.ok.ex hs, by rw [r.length]; exact hn, gNames_run (js := js) r (hj.trans hn.symm) S2 fun σ2 S3 => k σ2 G2 H2 S3⟩
theorem q_tup {js : List Nat} {n : Nat} {ds : List Dat} (h : EvX W K te Γ (.tup ds)) (hn : ds.length = n) (hj : js.length = n) (S : S4 W K G1 G0 H0 Γ O σ G H) (k : ∀ σ2 G2 H2, S4 W K G1 G0 H0 (setsG Γ js ds) O σ2 G2 H2 → tz D σ2 H2) : tSeq (tAsg te (gTup K n (gNames js))) tz D σ H :=
  g_tup (D := { D with nx := tz D }) h hn hj S k

/-! ### loops: a word of the turn -/
abbrev Word (W : Wd) (K : PySem.W.Frag) (G1 G0 H0 : Hp) (I : List (Option Dat) → List (Addr × List Dat) → Prop) : L2.St → Hp → Prop := fun σ H => ∃ Γ O G, I Γ O ∧ S4 W K G1 G0 H0 Γ O σ G H
theorem g_forR {lo : Int} {n : Nat} {j : Nat} {tb : TS} (I : Nat → List (Option Dat) → List (Addr × List Dat) → Prop) (h0 : I 0 Γ O) (S : S4 W K G1 G0 H0 Γ O σ G H)
    (hs : ∀ (i : Nat) Γ' O' σ' G' H', i < n → I i Γ' O' → S4 W K G1 G0 H0 (Γ'.set j (some (.int (lo + i)))) O' σ' G' H' → tb { D with nx := Word W K G1 G0 H0 (I (i + 1)), ct := Word W K G1 G0 H0 (I (i + 1)), bk := D.nx } σ' H')
    (hd : ∀ Γ' O' σ' G' H', I n Γ' O' → S4 W K G1 G0 H0 Γ' O' σ' G' H' → D.nx σ' H') :
    ∃ W' : Nat → Nat → L2.St → Hp → Prop, (∃ m, W' 0 m σ H) ∧ ∀ i m σ H, W' i m σ H → ((Itr lo n).stop i H ∧ D.nx σ H) ∨ ((Itr lo n).go i H ∧ ∃ N : L2.St → Hp → Prop, (∀ σ' H', N σ' H' → ∃ m', m' < m ∧ W' (i + 1) m' σ' H') ∧ ∀ x H', (Itr lo n).yld i H x H' → gName j x σ H' fun σ2 H2 => tb { D with nx := N, ct := N, bk := D.nx } σ2 H2) :=
  for_range (fun i σ H => Word W K G1 G0 H0 (I i) σ H) ⟨Γ, O, G, h0, S⟩ (fun i σ' H' hi ⟨Γ', O', G', hI, S'⟩ => hs i Γ' O' _ G' H' hi hI (S'.set (.int _))) (fun σ' H' ⟨Γ', O', G', hI, S'⟩ => hd Γ' O' σ' G' H' hI S')
theorem g_for1 {n : Int} {j : Nat} {tb : TS} (h : EvAX W K tA Γ [.int n]) (hn : n ≤ 100000) (S : S4 W K G1 G0 H0 Γ O σ G H) (I : Nat → List (Option Dat) → List (Addr × List Dat) → Prop) (h0 : I 0 Γ O)
    (hs : ∀ (i : Nat) Γ' O' σ' G' H', (i : Int) < n → I i Γ' O' → S4 W K G1 G0 H0 (Γ'.set j (some (.int (i : Int)))) O' σ' G' H' → tb { D with nx := Word W K G1 G0 H0 (I (i + 1)), ct := Word W K G1 G0 H0 (I (i + 1)), bk := D.nx } σ' H')
    (hd : ∀ Γ' O' σ' G' H', I n.toNat Γ' O' → S4 W K G1 G0 H0 Γ' O' σ' G' H' → D.nx σ' H') (hn0 : -100000 ≤ n) : tFor (iRng1 tA) (gName j) tb D σ H :=
  h σ G H S.env S.ok _ fun vs ds G2 H2 s e r => by
    subst e
    cases r with
    | cons r r0 =>
      cases r0
      cases r
      refine ⟨n, rfl, by omega, by omega, g_forR (lo := 0) I h0 (S.step s) (fun i Γ' O' σ' G' H' hi hI S' => ?_) hd⟩
      rw [Int.zero_add] at S'
      exact hs i Γ' O' σ' G' H' (by omega) hI S'
theorem q_for1 {n : Int} {j : Nat} {tb : TS} (h : EvAX W K tA Γ [.int n]) (hn : n ≤ 100000) (S : S4 W K G1 G0 H0 Γ O σ G H) (I : Nat → List (Option Dat) → List (Addr × List Dat) → Prop) (h0 : I 0 Γ O)
    (hs : ∀ (i : Nat) Γ' O' σ' G' H', (i : Int) < n → I i Γ' O' → S4 W K G1 G0 H0 (Γ'.set j (some (.int (i : Int)))) O' σ' G' H' → tb { D with nx := Word W K G1 G0 H0 (I (i + 1)), ct := Word W K G1 G0 H0 (I (i + 1)), bk := tz D } σ' H')
    (hd : ∀ Γ' O' σ' G' H', I n.toNat Γ' O' → S4 W K G1 G0 H0 Γ' O' σ' G' H' → tz D σ' H') (hn0 : -100000 ≤ n) : tSeq (tFor (iRng1 tA) (gName j) tb) tz D σ H :=
  g_for1 (D := { D with nx := tz D }) h hn S I h0 hs hd hn0
theorem S4.base {G2 : Hp} (e : Ex G2 G1) (S : S4 W K G1 G0 H0 Γ O σ G H) : S4 W K G2 G0 H0 Γ O σ G H := ⟨S.env, S.ok, S.stp, S.own, S.nd, e.trans S.fr⟩
theorem S4.here (S : S4 W K G1 G0 H0 Γ O σ G H) : S4 W K G G0 H0 Γ O σ G H := ⟨S.env, S.ok, S.stp, S.own, S.nd, Ex.refl _⟩
/-- over a list, a tuple that is known -/
theorem g_forL {ds : List Dat} {tl : TE} {j : Nat} {tb : TS} (h : EvX W K tl Γ (.lst ds)) (S : S4 W K G1 G0 H0 Γ O σ G H) (I : Nat → List (Option Dat) → List (Addr × List Dat) → Prop) (h0 : I 0 Γ O)
    (hs : ∀ G1 (i : Nat) d Γ' O' σ' G' H', ds[i]? = some d → I i Γ' O' → S4 W K G1 G0 H0 (Γ'.set j (some d)) O' σ' G' H' → tb { D with nx := Word W K G1 G0 H0 (I (i + 1)), ct := Word W K G1 G0 H0 (I (i + 1)), bk := D.nx } σ' H')
    (hd : ∀ Γ' O' σ' G' H', I ds.length Γ' O' → S4 W K G1 G0 H0 Γ' O' σ' G' H' → D.nx σ' H') : tFor (iList K tl) (gName j) tb D σ H :=
  h σ G H S.env S.ok _ fun v d G2 H2 s e r => by
    subst e
    obtain ⟨a, xs, rfl, hx, r⟩ := r.lst_inv
    have S2 := S.step s
    have hl := r.length
    refine ⟨a, rfl, ⟨xs, ex_l S2.ok.ex hx⟩, for_list (fun i σ' H' => Word W K G2 G0 H0 (I i) σ' H') ⟨Γ, O, G2, h0, S2.here⟩ (fun i σ' H' _ ⟨Γ', O', G', _, S'⟩ => ex_l (S'.fr.trans S'.ok.ex) hx) (fun i x σ' H' hi ⟨Γ', O', G', hI, S'⟩ => ?_) (fun σ' H' ⟨Γ', O', G', hI, S'⟩ => hd Γ' O' σ' G' H' (by rw [← hl]; exact hI) (S'.base S2.fr))⟩
    obtain ⟨d, hd', rd⟩ := r.getV hi
    exact hs G2 i d Γ' O' _ G' H' hd' hI (S'.set (rd.mono S'.fr))
theorem q_forL {ds : List Dat} {tl : TE} {j : Nat} {tb : TS} (h : EvX W K tl Γ (.lst ds)) (S : S4 W K G1 G0 H0 Γ O σ G H) (I : Nat → List (Option Dat) → List (Addr × List Dat) → Prop) (h0 : I 0 Γ O)
    (hs : ∀ G1 (i : Nat) d Γ' O' σ' G' H', ds[i]? = some d → I i Γ' O' → S4 W K G1 G0 H0 (Γ'.set j (some d)) O' σ' G' H' → tb { D with nx := Word W K G1 G0 H0 (I (i + 1)), ct := Word W K G1 G0 H0 (I (i + 1)), bk := tz D } σ' H')
    (hd : ∀ Γ' O' σ' G' H', I ds.length Γ' O' → S4 W K G1 G0 H0 Γ' O' σ' G' H' → tz D σ' H') : tSeq (tFor (iList K tl) (gName j) tb) tz D σ H :=
  g_forL (D := { D with nx := tz D }) h S I h0 hs hd
theorem g_forT {ds : List Dat} {tl : TE} {j : Nat} {tb : TS} (h : EvX W K tl Γ (.tup ds)) (S : S4 W K G1 G0 H0 Γ O σ G H) (I : Nat → List (Option Dat) → List (Addr × List Dat) → Prop) (h0 : I 0 Γ O)
    (hs : ∀ G1 (i : Nat) d Γ' O' σ' G' H', ds[i]? = some d → I i Γ' O' → S4 W K G1 G0 H0 (Γ'.set j (some d)) O' σ' G' H' → tb { D with nx := Word W K G1 G0 H0 (I (i + 1)), ct := Word W K G1 G0 H0 (I (i + 1)), bk := D.nx } σ' H')
    (hd : ∀ Γ' O' σ' G' H', I ds.length Γ' O' → S4 W K G1 G0 H0 Γ' O' σ' G' H' → D.nx σ' H') : tFor (iTup K tl) (gName j) tb D σ H :=
  h σ G H S.env S.ok _ fun v d G2 H2 s e r => by
    subst e
    obtain ⟨a, xs, rfl, hx, r⟩ := r.tup_inv
    have S2 := S.step s
    have hl := r.length
    refine ⟨a, rfl, ⟨xs, ex_t S2.ok.ex hx⟩, for_tup (fun i σ' H' => Word W K G2 G0 H0 (I i) σ' H') ⟨Γ, O, G2, h0, S2.here⟩ (fun i σ' H' _ ⟨Γ', O', G', _, S'⟩ => ex_t (S'.fr.trans S'.ok.ex) hx) (fun i x σ' H' hi ⟨Γ', O', G', hI, S'⟩ => ?_) (fun σ' H' ⟨Γ', O', G', hI, S'⟩ => hd Γ' O' σ' G' H' (by rw [← hl]; exact hI) (S'.base S2.fr))⟩
    obtain ⟨d, hd', rd⟩ := r.getV hi
    exact hs G2 i d Γ' O' _ G' H' hd' hI (S'.set (rd.mono S'.fr))
theorem q_forT {ds : List Dat} {tl : TE} {j : Nat} {tb : TS} (h : EvX W K tl Γ (.tup ds)) (S : S4 W K G1 G0 H0 Γ O σ G H) (I : Nat → List (Option Dat) → List (Addr × List Dat) → Prop) (h0 : I 0 Γ O)
    (hs : ∀ G1 (i : Nat) d Γ' O' σ' G' H', ds[i]? = some d → I i Γ' O' → S4 W K G1 G0 H0 (Γ'.set j (some d)) O' σ' G' H' → tb { D with nx := Word W K G1 G0 H0 (I (i + 1)), ct := Word W K G1 G0 H0 (I (i + 1)), bk := tz D } σ' H')
    (hd : ∀ Γ' O' σ' G' H', I ds.length Γ' O' → S4 W K G1 G0 H0 Γ' O' σ' G' H' → tz D σ' H') : tSeq (tFor (iTup K tl) (gName j) tb) tz D σ H :=
  g_forT (D := { D with nx := tz D }) h S I h0 hs hd
/-- a while whose test is known in each turn -/
theorem g_whilex (m0 : Nat) (I : Nat → List (Option Dat) → List (Addr × List Dat) → Prop) (S : S4 W K G1 G0 H0 Γ O σ G H) (h0 : I m0 Γ O)
    (hs : ∀ m Γ' O', I m Γ' O' → ∃ b, EvBX W K tt Γ' b ∧ (b = true → ∀ σ' G' H', S4 W K G1 G0 H0 Γ' O' σ' G' H' → ts { D with nx := fun σ2 H2 => ∃ m', m' < m ∧ Word W K G1 G0 H0 (I m') σ2 H2, ct := fun σ2 H2 => ∃ m', m' < m ∧ Word W K G1 G0 H0 (I m') σ2 H2, bk := D.nx } σ' H') ∧
      (b = false → ∀ σ' G' H', S4 W K G1 G0 H0 Γ' O' σ' G' H' → D.nx σ' H')) : tWhile tt ts D σ H :=
  ⟨fun m σ H => Word W K G1 G0 H0 (I m) σ H, ⟨m0, Γ, O, G, h0, S⟩, fun m σ' H' ⟨Γ', O', G', hI, S'⟩ => by
    obtain ⟨b, hb, h1, h2⟩ := hs m Γ' O' hI
    refine hb σ' G' H' S'.env S'.ok _ fun c G2 H2 s e => ?_
    subst e
    cases c with
    | true => exact ⟨_, fun _ _ z => z, h1 rfl σ' G2 H2 (S'.step s)⟩
    | false => exact h2 rfl σ' G2 H2 (S'.step s)⟩
theorem q_whilex (m0 : Nat) (I : Nat → List (Option Dat) → List (Addr × List Dat) → Prop) (S : S4 W K G1 G0 H0 Γ O σ G H) (h0 : I m0 Γ O)
    (hs : ∀ m Γ' O', I m Γ' O' → ∃ b, EvBX W K tt Γ' b ∧ (b = true → ∀ σ' G' H', S4 W K G1 G0 H0 Γ' O' σ' G' H' → ts { D with nx := fun σ2 H2 => ∃ m', m' < m ∧ Word W K G1 G0 H0 (I m') σ2 H2, ct := fun σ2 H2 => ∃ m', m' < m ∧ Word W K G1 G0 H0 (I m') σ2 H2, bk := tz D } σ' H') ∧
      (b = false → ∀ σ' G' H', S4 W K G1 G0 H0 Γ' O' σ' G' H' → tz D σ' H')) : tSeq (tWhile tt ts) tz D σ H := g_whilex (D := { D with nx := tz D }) m0 I S h0 hs
end
end Ly

set_option maxHeartbeats 2000000
namespace Ly
open PySem L2
section
variable {W : Wd} {K : PySem.W.Frag} {Γ : List (Option Dat)} {ta tb tc te tl : TE} {tt tu : TT} {tA : TA} {P R S : Dat → Prop} {a b d e : Dat} {G H G2 H2 G1 G0 H0 : Hp} {O : List (Addr × List Dat)} {σ : L2.St} {D : Ends} {tz ts t1 t2 : TS}

/-! ## list comprehensions -/
/-- behind i turns: the new list at D -/
def Cm (W : Wd) (K : PySem.W.Frag) (G H : Hp) (D : Addr) (Acc : List Dat → Prop) (H' : Hp) : Prop := ∃ G' xs ds, Stp W G H G' H' ∧ H D = none ∧ G' D = none ∧ H' D = some (.lst xs) ∧ Reps K G' xs ds ∧ Acc ds
/-- one turn -/
abbrev Tn (W : Wd) (K : PySem.W.Frag) (tt : TT) (te : TE) (Γ : List (Option Dat)) (A B : List Dat → Prop) : Prop := ∀ ds, A ds → ds.length < 100000 ∧ ∃ T : Bool → Prop, EvB W K tt Γ T ∧ (T true → Ev W K te Γ fun d => B (ds ++ [d])) ∧ (T false → B ds)
theorem cm_start {Dl : Addr} (k : Ok W G H) (hD : H Dl = none) {A : List Dat → Prop} (h : A []) : Cm W K G H Dl A (upd H Dl (.lst [])) := by
  have gd : G Dl = none := by
    cases e : G Dl with
    | none => rfl
    | some u =>
      rw [k.ex Dl u e] at hD
      cases hD
  exact ⟨G, [], [], Stp.grow k (Ex.new hD), hD, gd, upd_same, .nil, h⟩
theorem cm_turn {Dl : Addr} {A B : List Dat → Prop} {H' : Hp} {σ2 : L2.St} (k : Ok W G H) (hm : ∀ G', Ex G G' → Env K G' σ2 Γ) (p : Cm W K G H Dl A H') (t : Tn W K tt te Γ A B) :
    tt σ2 H' fun b H3 => if b = true then te σ2 H3 fun y H4 => ∃ acc, H4 Dl = some (.lst acc) ∧ acc.length < sizeLine ∧ Cm W K G H Dl B (upd H4 Dl (.lst (acc ++ [y]))) else Cm W K G H Dl B H3 := by
  obtain ⟨G', xs, ds, s, hD, gD, h1, r, ha⟩ := p
  obtain ⟨hl, T, ht, hy, hn⟩ := t ds ha
  have nm : ¬ W.m Dl := fun z => by
    obtain ⟨o, ho⟩ := W.tr k.inv z
    rw [ho] at hD
    cases hD
  have k' := s.ok k
  have keepG : ∀ {G3 H3 : Hp}, Stp W G' H' G3 H3 → G3 Dl = none := fun {G3 H3} s3 => by
    cases e : G3 Dl with
    | none => rfl
    | some u =>
      rcases s3.nw Dl u e with q | q
      · rw [gD] at q
        cases q
      · rw [h1] at q
        cases q
  refine ht σ2 G' H' (hm G' s.gg) k' _ fun b G3 H3 s3 p3 => ?_
  cases b with
  | false =>
    show Cm W K G H Dl B H3
    exact ⟨G3, xs, ds, s.trans s3, hD, keepG s3, s3.hh Dl _ nm h1, r.mono s3.gg, hn p3⟩
  | true =>
    show te σ2 H3 fun y H4 => ∃ acc, H4 Dl = some (.lst acc) ∧ acc.length < sizeLine ∧ Cm W K G H Dl B (upd H4 Dl (.lst (acc ++ [y])))
    refine hy p3 σ2 G3 H3 (hm G3 (s.gg.trans s3.gg)) (s3.ok k') _ fun y d G4 H4 s4 p4 r4 => ?_
    have s34 := s3.trans s4
    have g4 := keepG s34
    have h4 := s34.hh Dl _ nm h1
    refine ⟨xs, h4, by rw [r.length]; exact sz_lt hl, ?_⟩
    have s04 := s.trans s34
    have eg : Ex G4 (upd H4 Dl (.lst (xs ++ [y]))) := fun a u e => by
      rw [upd_ne (ne_of_none e g4)]
      exact s04.gh a u e
    refine ⟨G4, xs ++ [y], ds ++ [d], ⟨s04.gg, eg, fun a u hm e => ?_, s04.nw, W.loc s04.inv fun a ha => upd_ne fun e => nm (e ▸ ha)⟩, hD, g4, upd_same, (r.mono s34.gg).append (.cons r4 .nil), p4⟩
    rw [upd_ne (ne_of_none e hD)]
    exact s04.hh a u hm e
theorem cm_end {Dl : Addr} {A : List Dat → Prop} {H' : Hp} {Q : VK} (p : Cm W K G H Dl A H') (q : ∀ p xs ds G2 H2, Stp W G H G2 H2 → H p = none → G2 p = none → H2 p = some (.lst xs) → Reps K G2 xs ds → A ds → Q (.ref p) H2) : Q (.ref Dl) H' := by
  obtain ⟨G', xs, ds, s, hD, gD, h1, r, ha⟩ := p
  exact q Dl xs ds G' H' s hD gD h1 r ha
theorem wipe1 {σ : L2.St} {j : Nat} {x : Option V} : L2.wipe ((L2.wipe σ [j]).set j x) [j] = L2.wipe σ [j] := by
  show ((σ.set j none).set j x).set j none = σ.set j none
  rw [List.set_set, List.set_set]
theorem env_turn {j : Nat} {v : V} {d : Dat} (h : Env K G σ Γ) (r : Rep K G v d) : Env K G ((L2.wipe σ [j]).set j (some v)) ((wipeG Γ [j]).set j (some d)) := (h.wipe [j]).set r
/-- over range(n) -/
theorem n_lcR {j : Nat} {R : List Dat → Prop} (A : Int → Nat → List Dat → Prop) (h : EvA W K tA Γ fun ds => ∃ n, ds = [.int n] ∧ (-100000 ≤ n ∧ n ≤ 100000) ∧ A n 0 [] ∧ (∀ i : Nat, (i : Int) < n → Tn W K tt te ((wipeG Γ [j]).set j (some (.int (i : Int)))) (A n i) (A n (i + 1))) ∧ ∀ ds, A n n.toNat ds → R ds) :
    EvN W K (tLc (iRng1 tA) (gName j) tt te [j]) Γ R := fun σ G H n k Q q =>
  h σ G H n k _ fun vs ds G2 H2 s ⟨m, e, hm, h0, ht, hR⟩ r => by
    subst e
    cases r with
    | cons r r0 =>
      cases r0
      cases r
      have k2 := s.ok k
      refine ⟨m, rfl, by omega, by omega, fun Dl hD => lc_range (lo := 0) (n := m.toNat) (fun i H' => Cm W K G2 H2 Dl (A m i) H') (cm_start k2 hD h0) (fun i H' hi p => ?_) (fun H' p => ?_)⟩
      · refine ⟨wipe1, ?_⟩
        rw [Int.zero_add]
        exact cm_turn k2 (fun G' e => env_turn (n.mono (s.gg.trans e)) (.int _)) p (ht i (by omega))
      · exact cm_end p fun p xs ds G3 H3 s3 h0 g3 h3 r a => q p xs ds G3 H3 (s.trans s3) (back s h0).1 g3 h3 r (hR ds a)
/-- over a list that is known -/
theorem n_lcL {j : Nat} {R : List Dat → Prop} {us : List Dat} (A : Nat → List Dat → Prop) (h : EvX W K tl Γ (.lst us)) (h0 : A 0 []) (ht : ∀ i d, us[i]? = some d → Tn W K tt te ((wipeG Γ [j]).set j (some d)) (A i) (A (i + 1))) (hR : ∀ ds, A us.length ds → R ds) :
    EvN W K (tLc (iList K tl) (gName j) tt te [j]) Γ R := fun σ G H n k Q q =>
  h σ G H n k _ fun v d G2 H2 s e r => by
    subst e
    obtain ⟨a, xs, rfl, hx, r⟩ := r.lst_inv
    have k2 := s.ok k
    refine ⟨a, rfl, ⟨xs, ex_l k2.ex hx⟩, fun Dl hD => lc_list (xs := xs) (fun i H' => Cm W K G2 H2 Dl (A i) H') (cm_start k2 hD h0) (fun i H' _ p => ?_) (fun i x H' hi p => ?_) (fun H' p => ?_)⟩
    · obtain ⟨G', _, _, s', _⟩ := p
      exact ex_l (s'.gg.trans s'.gh) hx
    · obtain ⟨d, hd, rd⟩ := r.getV hi
      exact ⟨wipe1, cm_turn k2 (fun G' e => env_turn (n.mono (s.gg.trans e)) (rd.mono e)) p (ht i d hd)⟩
    · rw [r.length] at p
      exact cm_end p fun p xs ds G3 H3 s3 h0 g3 h3 r a => q p xs ds G3 H3 (s.trans s3) (back s h0).1 g3 h3 r (hR ds a)
theorem n_lcT {j : Nat} {R : List Dat → Prop} {us : List Dat} (A : Nat → List Dat → Prop) (h : EvX W K tl Γ (.tup us)) (h0 : A 0 []) (ht : ∀ i d, us[i]? = some d → Tn W K tt te ((wipeG Γ [j]).set j (some d)) (A i) (A (i + 1))) (hR : ∀ ds, A us.length ds → R ds) :
    EvN W K (tLc (iTup K tl) (gName j) tt te [j]) Γ R := fun σ G H n k Q q =>
  h σ G H n k _ fun v d G2 H2 s e r => by
    subst e
    obtain ⟨a, xs, rfl, hx, r⟩ := r.tup_inv
    have k2 := s.ok k
    refine ⟨a, rfl, ⟨xs, ex_t k2.ex hx⟩, fun Dl hD => lc_tup (xs := xs) (fun i H' => Cm W K G2 H2 Dl (A i) H') (cm_start k2 hD h0) (fun i H' _ p => ?_) (fun i x H' hi p => ?_) (fun H' p => ?_)⟩
    · obtain ⟨G', _, _, s', _⟩ := p
      exact ex_t (s'.gg.trans s'.gh) hx
    · obtain ⟨d, hd, rd⟩ := r.getV hi
      exact ⟨wipe1, cm_turn k2 (fun G' e => env_turn (n.mono (s.gg.trans e)) (rd.mono e)) p (ht i d hd)⟩
    · rw [r.length] at p
      exact cm_end p fun p xs ds G3 H3 s3 h0 g3 h3 r a => q p xs ds G3 H3 (s.trans s3) (back s h0).1 g3 h3 r (hR ds a)
theorem b_yes : EvB W K tYes Γ (· = true) := fun σ G H n k Q q => q true G H (Stp.refl k) rfl
/-- a turn without a test -/
theorem tn_each {A B : List Dat → Prop} {Γ : List (Option Dat)} (hl : ∀ ds, A ds → ds.length < 100000) (h : ∀ ds, A ds → Ev W K te Γ fun d => B (ds ++ [d])) : Tn W K tYes te Γ A B := fun ds a => ⟨hl ds a, _, b_yes, fun _ => h ds a, fun e => nomatch e⟩
/-- what n turns give, each a P -/
def Each (P : Nat → Dat → Prop) (n : Nat) (ds : List Dat) : Prop := ds.length = n ∧ ∀ i d, ds[i]? = some d → P i d
theorem Each.nil {P : Nat → Dat → Prop} : Each P 0 [] := ⟨rfl, fun _ _ h => by simp at h⟩
theorem Each.add {P : Nat → Dat → Prop} {n : Nat} {ds : List Dat} {d : Dat} (h : Each P n ds) (p : P n d) : Each P (n + 1) (ds ++ [d]) := by
  refine ⟨by rw [List.length_append, h.1]; rfl, fun i u hi => ?_⟩
  by_cases hl : i < ds.length
  · rw [List.getElem?_append_left hl] at hi
    exact h.2 i u hi
  · rw [List.getElem?_append_right (by omega)] at hi
    have hz : i - ds.length = 0 := by
      rcases Nat.eq_zero_or_pos (i - ds.length) with z | z
      · exact z
      · rw [List.getElem?_eq_none (by simp; omega)] at hi
        cases hi
    rw [hz] at hi
    have e : d = u := Option.some.inj hi
    have e2 : i = n := by have := h.1; omega
    rw [← e, e2]
    exact p
theorem tn_P {P : Nat → Dat → Prop} {i : Nat} {Γ : List (Option Dat)} (hi : i < 100000) (h : Ev W K te Γ (P i)) : Tn W K tYes te Γ (Each P i) (Each P (i + 1)) := tn_each (fun ds a => by rw [a.1]; exact hi) fun ds a => h.imp fun d p => a.add p
end
end Ly

set_option maxHeartbeats 2000000
namespace Ly
open PySem L2 PySem.Spec PyProof.Rows HT
/-! ## t[::-1] of a tuple -/
section
variable {prog : Program} {w : World} {A : Around} {E : Value → Shared → Prop} {s : Shared}
theorem adjust_rev (n : Nat) : Builtin.Slice.sliceAdjust none none (-1) (n : Int) = ((n : Int) - 1, -1) := by
  unfold Builtin.Slice.sliceAdjust
  simp
theorem places_rev (n : Nat) : Builtin.Slice.slicePlaces ((n : Int) - 1) (-1) (-1) = n := by
  unfold Builtin.Slice.slicePlaces
  have h1 : ¬ ((-1 : Int) > 0) := by decide
  rw [if_neg h1]
  split
  · have e : ((n : Int) - 1 - -1 - 1) / (- -1) = (n : Int) - 1 := by
      rw [show (- -1 : Int) = 1 by decide, Int.ediv_one]
      omega
    rw [e]
    omega
  · omega
theorem sliceApplied_rev {sl : Addr} {vl vu vs : Value} {n : Nat} {Q : Int × Int × Nat → Shared → Prop} (hs : s.heap.IsSliceOf sl vl vu vs) (pl : IsPart vl none) (pu : IsPart vu none) (ps : IsPart vs (some (-1)))
    (h : Q ((n : Int) - 1, -1, n) s) : wpAny (model prog w) A (Builtin.Slice.sliceApplied (.ref sl) (pure (n : Int))) Q E s := by
  obtain ⟨os, hos, hcs, hds⟩ := id hs
  unfold Builtin.Slice.sliceApplied Builtin.Slice.sliceFields
  refine wpAny_bind (wpAny_bind (wpAny_field hos hds (x := vl) rfl (wpAny_bind (wpAny_field hos hds (x := vu) rfl (wpAny_bind (wpAny_field hos hds (x := vs) rfl (wpAny_pure ?_)))))))
  refine wpAny_bind (slicePart_ ps ?_)
  show wpAny _ _ (if ((-1 : Int) == 0) = true then _ else _) _ _ s
  rw [if_neg (by decide)]
  refine wpAny_bind (slicePart_ pl (wpAny_bind (slicePart_ pu (wpAny_bind (wpAny_pure ?_)))))
  show wpAny _ _ (match Builtin.Slice.sliceAdjust none none (-1) (n : Int) with | (lo, hi) => pure (lo, (-1 : Int), Builtin.Slice.slicePlaces lo hi (-1))) _ _ s
  rw [adjust_rev n]
  show wpAny _ _ (pure ((n : Int) - 1, (-1 : Int), Builtin.Slice.slicePlaces ((n : Int) - 1) (-1) (-1))) _ _ s
  rw [places_rev]
  exact wpAny_pure h
theorem fm_rev (xs : Array Value) : ((List.range xs.size).filterMap fun (m : Nat) => xs[(((xs.size : Nat) : Int) - 1 + (m : Int) * (-1)).toNat]?) = xs.toList.reverse := by
  have e : (fun (m : Nat) => xs[(((xs.size : Nat) : Int) - 1 + (m : Int) * (-1)).toNat]?) = ((fun x => xs[x]?) ∘ fun m => xs.size - 1 - m) := by
    funext m
    have q : (((xs.size : Nat) : Int) - 1 + (m : Int) * (-1)).toNat = xs.size - 1 - m := by omega
    rw [q]
    rfl
  rw [e, ← List.filterMap_map, PySem.W.krv_range, List.filterMap_reverse, PySem.W.krv_all]
theorem getItem_tuple_rev {t sl : Addr} {items : Array Value} {vl vu vs : Value} {Q : Value → Shared → Prop} (ht : IsTup s.heap t items) (hs : s.heap.IsSliceOf sl vl vu vs) (pl : IsPart vl none) (pu : IsPart vu none) (ps : IsPart vs (some (-1)))
    (h : Q (.ref s.heap.objs.size) { s with heap := s.heap.push { cls := .type "tuple", data := .seq items.toList.reverse.toArray } }) (hsz : items.size ≤ sizeLine) : wpAny (model prog w) A (getItem (.ref t) (.ref sl)) Q E s := by
  have htake : sizeOk (.seq items.toList.reverse.toArray) := by
    show items.toList.reverse.toArray.size ≤ sizeLine
    rw [List.size_toArray, List.length_reverse, Array.length_toList]
    exact hsz
  obtain ⟨os, hos, hcs, hds⟩ := id hs
  have hTs : s.TypeIs (.ref sl) "slice" := ⟨os, hos, hcs⟩
  unfold getItem
  try with_reducible refine wpAny_holding ?_
  first | refine wpAny_bind (wpAny_pure ?_) | skip
  refine wpAny_bind (wpAny_sequenceKey ht.typeIs (by decide) ?_)
  refine wpAny_bind (wpAny_callSpecial?_slot (name := Str.ofString "__getitem__") ht.typeIs PyProof.Rows.slot_tuple_getitem
    (wpAny_call_entry PyProof.Rows.slot_tuple_getitem ht.typeIs entry_tuple_getitem ?_ (args_tuple_getitem _ _)))
  show wpAny _ _ (Builtin.Tuple.tupleItemsOf (.ref t) >>= _) _ _ s
  refine wpAny_bind (tupleItemsOf_ ht ?_)
  refine wpAny_bind (wpAny_typeOf hTs ?_)
  rw [if_pos (by decide)]
  refine wpAny_bind (sliceApplied_rev hs pl pu ps ?_)
  have hno : ¬ ((((items.size : Nat) : Int) - 1 == 0 && (-1 : Int) == 1 && items.size == items.size) = true) := by
    intro q
    rw [Bool.and_eq_true, Bool.and_eq_true] at q
    exact absurd q.1.2 (by decide)
  show wpAny _ _ (if (((items.size : Nat) : Int) - 1 == 0 && (-1 : Int) == 1 && items.size == items.size) = true then _ else _) _ _ s
  rw [if_neg hno, fm_rev]
  first
    | exact wpAny_bind (m := Builtin.Tuple.tupleExact _) (wpAny_newObj_type (wpAny_pure ⟨_, rfl, wpAny_pure h⟩) htake)
    | exact wpAny_bind (m := Builtin.Tuple.tupleExact _) (wpAny_newObj_type (wpAny_bind (wpAny_pure (wpAny_pure ⟨_, rfl, wpAny_pure h⟩))) htake)
    | exact wpAny_bind (wpAny_bind (m := Builtin.Tuple.tupleExact _) (wpAny_newObj_type (wpAny_pure (wpAny_pure ⟨_, rfl, wpAny_pure h⟩)) htake))
    | exact wpAny_bind (wpAny_bind (m := Builtin.Tuple.tupleExact _) (wpAny_newObj_type (wpAny_pure ⟨_, rfl, wpAny_pure h⟩) htake))
end
section
variable {X : Cx}
def tRevT (K : PySem.W.Frag) (te : TE) : TE := fun σ H Q => te σ H fun x H1 => ∃ a xs, x = .ref a ∧ SqT K H1 a xs ∧ ∀ p, H1 p = none → Q (.ref p) (upd H1 p (.tup xs.reverse))
theorem pe_revT {e : Expr} {te : TE} {k : Nat} {p1 p2 p3 pos : Pos} (he : PE X e te) : PE X (.Subscript e (.Slice none none (some (.UnaryOp .USub (.Constant (.int 1) k p1) p2)) p3) pos) (tRevT X.K te) := by
  refine ⟨fun pins s σ H Q I h => ?_⟩
  refine Subscript_ (thn (he.run pins s σ H _ I h) fun v s1 ⟨x, H1, I1, r1, q1⟩ => ?_)
  obtain ⟨a, xs, ex, hx, q⟩ := q1
  subst ex
  cases r1
  have hst : PO X (some (.UnaryOp .USub (.Constant (.int 1) k p1) p2)) (tPart (tUn (rU fun i => .int (-i)) (tC (.int 1)))) := po_some (pe_un un_neg pe_int)
  refine wpAny_Slice (thn (po_none.run pins s1 σ H1 (fun o H2 => o = none ∧ H2 = H1) I1 ⟨rfl, rfl⟩) fun vl s2 ⟨l, H2, I2, pl, el, e2⟩ => ?_)
  subst el e2
  refine thn (po_none.run pins s2 σ H2 (fun o H3 => o = none ∧ H3 = H2) I2 ⟨rfl, rfl⟩) fun vu s3 ⟨u, H3, I3, pu, eu, e3⟩ => ?_
  subst eu e3
  refine thn (hst.run pins s3 σ H3 (fun o H4 => o = some (-1) ∧ H4 = H3) I3 ⟨1, rfl, -1, rfl, rfl, rfl⟩) fun vs s4 ⟨o, H4, I4, ps, eo, e4⟩ => ?_
  subst eo e4
  have I5 : Inv X pins σ H4 { s4 with heap := s4.heap.push { cls := .type "slice", data := .fields #[vl, vu, vs] } } := I4.kept (t' := s4.toks) fun b ob q => Heap.get?_push_of_some _ q
  obtain ⟨its, r, ht, hz⟩ := I5.tuple hx
  have hlen := r.length
  show wpAny (model X.prog X.w) X.A (subscriptTail e (.Slice none none (some (.UnaryOp .USub (.Constant (.int 1) k p1) p2)) p3) (.ref a) (.ref s4.heap.objs.size)) (EP X pins σ Q) X.xe { s4 with heap := s4.heap.push { cls := .type "slice", data := .fields #[vl, vu, vs] } }
  refine tail_any (ops := [.ref a, .ref s4.heap.objs.size]) ht.typeIs PyProof.Rows.slot_tuple_getitem.lookup ?_ (by with_unfolding_all rfl)
  refine getItem_tuple_rev ht (Heap.IsSliceOf.new _ vl vu vs) pl pu ps ?_ (by rw [List.size_toArray]; omega)
  refine ⟨.ref _, _, I5.laid (t' := s4.toks) (o := .tup xs.reverse) (fun b ob q => Heap.get?_push_of_some _ q) (Nat.le_refl _) ?_, rfl, q _ (I5.hok.fresh (Nat.le_refl _))⟩
  exact ⟨by rw [List.length_reverse]; exact hz, _, r.reverse, IsTup.new _ _⟩
end
section
variable {W : Wd} {K : PySem.W.Frag} {Γ : List (Option Dat)} {ta tb tc te tl : TE} {tt tu : TT} {tA : TA} {P R S : Dat → Prop} {a b d e : Dat} {G H G2 H2 G1 G0 H0 : Hp} {O : List (Addr × List Dat)} {σ : L2.St} {D : Ends} {tz ts t1 t2 : TS}
theorem v_revT {ds : List Dat} (h : EvX W K te Γ (.tup ds)) : EvX W K (tRevT K te) Γ (.tup ds.reverse) := fun σ G H n k Q q =>
  h σ G H n k _ fun v d G2 H2 s e r => by
    subst e
    obtain ⟨a, xs, rfl, hx, r⟩ := r.tup_inv
    have k2 := s.ok k
    exact ⟨a, xs, rfl, ex_t k2.ex hx, fun p hp => (q.step s) _ _ _ _ (Stp.new k2 hp) rfl (.tup (t_of upd_same) (r.reverse.mono (Stp.new k2 hp (W := W)).gg))⟩
theorem n_revL {ds : List Dat} (h : EvX W K te Γ (.lst ds)) : EvN W K (tRevL K te) Γ (· = ds.reverse) := fun σ G H n k Q q =>
  h σ G H n k _ fun v d G2 H2 s e r => by
    subst e
    obtain ⟨a, xs, rfl, hx, r⟩ := r.lst_inv
    have k2 := s.ok k
    exact ⟨a, xs, rfl, ex_l k2.ex hx, fun l hl => q l xs.reverse _ G2 _ (s.trans (Stp.grow k2 (Ex.new hl))) (back s hl).1 (back s hl).2 upd_same r.reverse rfl⟩
/-- for x in reversed(a tuple) -/
theorem g_forRT {ds : List Dat} {j : Nat} {tb : TS} (h : EvX W K tl Γ (.tup ds)) (S : S4 W K G1 G0 H0 Γ O σ G H) (I : Nat → List (Option Dat) → List (Addr × List Dat) → Prop) (h0 : I 0 Γ O)
    (hs : ∀ G1 (i : Nat) d Γ' O' σ' G' H', i < ds.length → ds[ds.length - 1 - i]? = some d → I i Γ' O' → S4 W K G1 G0 H0 (Γ'.set j (some d)) O' σ' G' H' → tb { D with nx := Word W K G1 G0 H0 (I (i + 1)), ct := Word W K G1 G0 H0 (I (i + 1)), bk := D.nx } σ' H')
    (hd : ∀ Γ' O' σ' G' H', I ds.length Γ' O' → S4 W K G1 G0 H0 Γ' O' σ' G' H' → D.nx σ' H') : tFor (RT.iRevA K tl) (gName j) tb D σ H :=
  h σ G H S.env S.ok _ fun v d G2 H2 s e r => by
    subst e
    obtain ⟨a, xs, rfl, hx, r⟩ := r.tup_inv
    have S2 := S.step s
    have hl := r.length
    refine ⟨a, xs, rfl, .inr ⟨ex_t S2.ok.ex hx, RT.for_ItvT (fun i σ' H' => Word W K G2 G0 H0 (I i) σ' H') ⟨Γ, O, G2, h0, S2.here⟩ (fun i σ' H' ⟨Γ', O', G', _, S'⟩ => ex_t (S'.fr.trans S'.ok.ex) hx) (fun i x σ' H' hi hxi ⟨Γ', O', G', hI, S'⟩ => ?_) (fun σ' H' ⟨Γ', O', G', hI, S'⟩ => hd Γ' O' σ' G' H' (by rw [← hl]; exact hI) (S'.base S2.fr))⟩⟩
    obtain ⟨d, hd', rd⟩ := r.getV hxi
    rw [hl] at hd' hi
    exact hs G2 i d Γ' O' _ G' H' hi hd' hI (S'.set (rd.mono S'.fr))
theorem q_forRT {ds : List Dat} {j : Nat} {tb : TS} (h : EvX W K tl Γ (.tup ds)) (S : S4 W K G1 G0 H0 Γ O σ G H) (I : Nat → List (Option Dat) → List (Addr × List Dat) → Prop) (h0 : I 0 Γ O)
    (hs : ∀ G1 (i : Nat) d Γ' O' σ' G' H', i < ds.length → ds[ds.length - 1 - i]? = some d → I i Γ' O' → S4 W K G1 G0 H0 (Γ'.set j (some d)) O' σ' G' H' → tb { D with nx := Word W K G1 G0 H0 (I (i + 1)), ct := Word W K G1 G0 H0 (I (i + 1)), bk := tz D } σ' H')
    (hd : ∀ Γ' O' σ' G' H', I ds.length Γ' O' → S4 W K G1 G0 H0 Γ' O' σ' G' H' → tz D σ' H') : tSeq (tFor (RT.iRevA K tl) (gName j) tb) tz D σ H := g_forRT (D := { D with nx := tz D }) h S I h0 hs hd
end
/-! ## == of data -/
mutual
def toPy : Dat → PyData
  | .non => .none | .bl b => .bool b | .int i => .int i | .str x => .str x | .tup ds => .tuple (toPys ds) | .lst ds => .list (toPys ds) | .adr _ => .none | .obj _ _ => .none | .dct _ => .none
def toPys : List Dat → List PyData
  | [] => []
  | d :: ds => toPy d :: toPys ds
end
mutual
/-- data of scalars, tuples, lists, nested at most n deep -/
def Pl : Nat → Dat → Prop
  | _, .non => True
  | _, .bl _ => True
  | _, .int _ => True
  | _, .str x => PyData.strOk x = true
  | _, .adr _ => False
  | _, .obj _ _ => False
  | _, .dct _ => False
  | 0, .tup _ => False
  | 0, .lst _ => False
  | n + 1, .tup ds => ds.length ≤ 40000 ∧ Pls n ds
  | n + 1, .lst ds => ds.length ≤ 40000 ∧ Pls n ds
def Pls : Nat → List Dat → Prop
  | _, [] => True
  | n, d :: ds => Pl n d ∧ Pls n ds
end
theorem Pls.get {n : Nat} : ∀ {ds : List Dat} {i : Nat} {d : Dat}, Pls n ds → ds[i]? = some d → Pl n d
  | [], _, _, _, h => by simp at h
  | _ :: _, 0, _, p, h => by
    have e := Option.some.inj h
    subst e
    unfold Pls at p
    exact p.1
  | _ :: ds, i + 1, d, p, h => by
    rw [List.getElem?_cons_succ] at h
    unfold Pls at p
    exact Pls.get p.2 h
theorem Pls.ints {n : Nat} : ∀ (ns : List Int), Pls n (ns.map Dat.int)
  | [] => by simp [Pls]
  | x :: ns => by
    rw [List.map_cons, Pls]
    exact ⟨by simp [Pl], Pls.ints ns⟩
theorem Pl.ints {n : Nat} {ns : List Int} (h : ns.length ≤ 40000) : Pl (n + 1) (.tup (ns.map Dat.int)) := by
  rw [Pl]
  exact ⟨by rw [List.length_map]; exact h, Pls.ints ns⟩
mutual
theorem Pl.lay : ∀ (n : Nat) (d : Dat), Pl n d → (toPy d).canLay0 = true
  | _, .non, _ => by simp [toPy, PyData.canLay0]
  | _, .bl _, _ => by simp [toPy, PyData.canLay0]
  | _, .int _, _ => by simp [toPy, PyData.canLay0]
  | n, .str x, h => by
    have h : PyData.strOk x = true := by cases n <;> simpa [Pl] using h
    simp [toPy, PyData.canLay0, h]
  | n, .adr _, h => by cases n <;> simp [Pl] at h
  | n, .obj _ _, h => by cases n <;> simp [Pl] at h
  | n, .dct _, h => by cases n <;> simp [Pl] at h
  | 0, .tup _, h => by simp [Pl] at h
  | 0, .lst _, h => by simp [Pl] at h
  | n + 1, .tup ds, h => by
    rw [Pl] at h
    simp only [toPy, PyData.canLay0]
    exact Pls.lay n ds h.2
  | n + 1, .lst ds, h => by
    rw [Pl] at h
    simp only [toPy, PyData.canLay0]
    exact Pls.lay n ds h.2
theorem Pls.lay : ∀ (n : Nat) (d : List Dat), Pls n d → PyData.canLayAll0 (toPys d) = true
  | _, [], _ => by simp [toPys, PyData.canLayAll0]
  | n, d :: ds, h => by
    rw [Pls] at h
    simp only [toPys, PyData.canLayAll0, Pl.lay n d h.1, Pls.lay n ds h.2, Bool.and_self]
end
mutual
theorem Pl.depth : ∀ (n : Nat) (d : Dat), Pl n d → (toPy d).depth ≤ n
  | _, .non, _ => by simp [toPy, PyData.depth]
  | _, .bl _, _ => by simp [toPy, PyData.depth]
  | _, .int _, _ => by simp [toPy, PyData.depth]
  | _, .str x, h => by simp [toPy, PyData.depth]
  | n, .adr _, h => by cases n <;> simp [Pl] at h
  | n, .obj _ _, h => by cases n <;> simp [Pl] at h
  | n, .dct _, h => by cases n <;> simp [Pl] at h
  | 0, .tup _, h => by simp [Pl] at h
  | 0, .lst _, h => by simp [Pl] at h
  | n + 1, .tup ds, h => by
    rw [Pl] at h
    simp only [toPy, PyData.depth]
    have := Pls.depth n ds h.2
    omega
  | n + 1, .lst ds, h => by
    rw [Pl] at h
    simp only [toPy, PyData.depth]
    have := Pls.depth n ds h.2
    omega
theorem Pls.depth : ∀ (n : Nat) (d : List Dat), Pls n d → PyData.depthAll (toPys d) ≤ n
  | _, [], _ => by simp [toPys, PyData.depthAll]
  | n, d :: ds, h => by
    rw [Pls] at h
    simp only [toPys, PyData.depthAll]
    have h1 := Pl.depth n d h.1
    have h2 := Pls.depth n ds h.2
    omega
end
theorem Pl.shaped {n : Nat} {d : Dat} (h : Pl n d) (hn : n ≤ 64) : SeqAt.shaped (toPy d) = true := by
  unfold SeqAt.shaped
  rw [h.lay, decide_eq_true (Nat.le_trans h.depth hn)]
  rfl
section
variable {K : PySem.W.Frag} {G H : Hp}
mutual
theorem Rep.dp (e : Ex G H) : ∀ {v : V} {d : Dat} (n : Nat), Pl n d → Rep K G v d → Dp K H v (toPy d)
  | _, _, _, _, .non => .non
  | _, _, _, _, .bl b => .bl b
  | _, _, _, _, .int i => .int i
  | _, _, _, _, .str x => .str x
  | _, _, n, h, .adr _ => by cases n <;> simp [Pl] at h
  | _, _, n, h, .obj _ _ => by cases n <;> simp [Pl] at h
  | _, _, n, h, .dct _ _ => by cases n <;> simp [Pl] at h
  | _, _, 0, h, .tup _ _ => by simp [Pl] at h
  | _, _, 0, h, .lst _ _ => by simp [Pl] at h
  | _, _, n + 1, h, .tup s r => by
    rw [Pl] at h
    simp only [toPy]
    exact .tup (ex_t e s) (Reps.dp e n h.2 r)
  | _, _, n + 1, h, .lst s r => by
    rw [Pl] at h
    simp only [toPy]
    exact .lst (ex_l e s) (Reps.dp e n h.2 r)
theorem Reps.dp (e : Ex G H) : ∀ {v : List V} {d : List Dat} (n : Nat), Pls n d → Reps K G v d → DpAll K H v (toPys d)
  | _, _, _, _, .nil => .nil
  | _, _, n, h, .cons r rs => by
    rw [Pls] at h
    simp only [toPys]
    exact .cons (Rep.dp e n h.1 r) (Reps.dp e n h.2 rs)
end
end
section
variable {W : Wd} {K : PySem.W.Frag} {Γ : List (Option Dat)} {ta tb : TE} {a b : Dat} {n : Nat}
theorem v_eqD (ha : EvX W K ta Γ a) (hb : EvX W K tb Γ b) (pa : Pl n a) (pb : Pl n b) (hn : n ≤ 64) : EvX W K (tOp (rEqD K) ta tb) Γ (.bl (PyData.eqv (toPy a) (toPy b))) := v_opx ha hb fun G H x y k rx ry Q q =>
  ⟨_, _, Rep.dp k.ex n pa rx, Rep.dp k.ex n pb ry, pa.shaped hn, pb.shaped hn, q.here k (.bl _) rfl⟩
theorem v_neD (ha : EvX W K ta Γ a) (hb : EvX W K tb Γ b) (pa : Pl n a) (pb : Pl n b) (hn : n ≤ 64) : EvX W K (tOp (rNeD K) ta tb) Γ (.bl (!PyData.eqv (toPy a) (toPy b))) := v_opx ha hb fun G H x y k rx ry Q q =>
  ⟨_, _, Rep.dp k.ex n pa rx, Rep.dp k.ex n pb ry, pa.shaped hn, pb.shaped hn, q.here k (.bl _) rfl⟩
theorem eqv_same {d : Dat} (h : Pl n d) : PyData.eqv (toPy d) (toPy d) = true := SeqAt.eqv_refl _ h.lay
theorem eqvs_ints : ∀ (ns ms : List Int), PyData.eqvAll (toPys (ns.map Dat.int)) (toPys (ms.map Dat.int)) = decide (ns = ms)
  | [], [] => by simp [toPys, PyData.eqvAll]
  | [], m :: ms => by simp [toPys, PyData.eqvAll]
  | n :: ns, [] => by simp [toPys, PyData.eqvAll]
  | n :: ns, m :: ms => by
    simp only [List.map_cons, toPys, toPy, PyData.eqvAll, PyData.eqv, eqvs_ints ns ms]
    by_cases h : n = m
    · subst h
      simp
    · have : (n == m) = false := by simpa using h
      rw [this]
      simp [h]
theorem eqv_ints (ns ms : List Int) : PyData.eqv (toPy (.tup (ns.map Dat.int))) (toPy (.tup (ms.map Dat.int))) = decide (ns = ms) := by
  simp only [toPy, PyData.eqv]
  exact eqvs_ints ns ms
/-- a tuple's, a list's truth -/
abbrev tTruth (K : PySem.W.Frag) (ta : TE) : TT := fun σ H Q => ta σ H fun x H' => ∃ k, TruV K x H' k ∧ Q k H'
theorem b_truT {ds : List Dat} (h : EvX W K ta Γ (.tup ds)) : EvBX W K (tTruth K ta) Γ (!ds.isEmpty) := fun σ G H n k Q q => h σ G H n k _ fun v d G2 H2 s e r => by
  subst e
  obtain ⟨a, xs, rfl, hx, r⟩ := r.tup_inv
  refine ⟨!xs.isEmpty, .inr (.inl ⟨xs, ex_t (s.ok k).ex hx, rfl⟩), q _ G2 H2 s ?_⟩
  cases r <;> rfl
theorem b_truL {ds : List Dat} (h : EvX W K ta Γ (.lst ds)) : EvBX W K (tTruth K ta) Γ (!ds.isEmpty) := fun σ G H n k Q q => h σ G H n k _ fun v d G2 H2 s e r => by
  subst e
  obtain ⟨a, xs, rfl, hx, r⟩ := r.lst_inv
  refine ⟨!xs.isEmpty, .inl ⟨xs, ex_l (s.ok k).ex hx, rfl⟩, q _ G2 H2 s ?_⟩
  cases r <;> rfl
end
/-! ## the pool of draws -/
/-- the pool at p, its script at c; what stands in it -/
def WQ (p c : Addr) (ns : List Int) (i z k s : Int) : Wd where
  m := fun a => a = p ∨ a = c
  I := fun H => p ≠ c ∧ H c = some (.lst (ns.map V.int)) ∧ H p = some (.lst [.ref c, .int i, .int z, .int k, .int s])
  loc := fun h e => ⟨h.1, by rw [e _ (.inr rfl)]; exact h.2.1, by rw [e _ (.inl rfl)]; exact h.2.2⟩
  tr := fun h hm => by
    rcases hm with rfl | rfl
    · exact ⟨_, h.2.2⟩
    · exact ⟨_, h.2.1⟩
def WP (p c : Addr) (ns : List Int) : Wd where
  m := fun a => a = p ∨ a = c
  I := fun H => p ≠ c ∧ H c = some (.lst (ns.map V.int)) ∧ ∃ i z k s : Int, 0 ≤ i ∧ H p = some (.lst [.ref c, .int i, .int z, .int k, .int s])
  loc := fun h e => ⟨h.1, by rw [e _ (.inr rfl)]; exact h.2.1, by
    obtain ⟨i, z, k, s, h0, h1⟩ := h.2.2
    exact ⟨i, z, k, s, h0, by rw [e _ (.inl rfl)]; exact h1⟩⟩
  tr := fun h hm => by
    rcases hm with rfl | rfl
    · obtain ⟨i, z, k, s, h0, h1⟩ := h.2.2
      exact ⟨_, h1⟩
    · exact ⟨_, h.2.1⟩
section
variable {p c : Addr} {ns : List Int} {i z k s : Int} {K : PySem.W.Frag} {Γ : List (Option Dat)} {ta tb te : TE} {a b d : Dat} {G H G2 H2 G1 G0 H0 : Hp} {O : List (Addr × List Dat)} {σ : L2.St} {D : Ends} {tz : TS} {P : Dat → Prop}
/-- the pool's cells -/
def cellQ (c : Addr) (i z k s : Int) : List Dat := [.adr c, .int i, .int z, .int k, .int s]
def cellV (c : Addr) (i z k s : Int) : List V := [.ref c, .int i, .int z, .int k, .int s]
theorem v_pool {j : Nat} (ha : EvX (WQ p c ns i z k s) K ta Γ (.adr p)) (h : (cellQ c i z k s)[j]? = some d) : EvX (WQ p c ns i z k s) K (tOp (rIxL K) ta (tC (.int (j : Int)))) Γ d :=
  v_opx ha v_int fun G H x y kk rx ry Q q => by
    cases rx
    cases ry
    have hp := kk.inv.2.2
    have r : Reps K G (cellV c i z k s) (cellQ c i z k s) := .cons (.adr c) (.cons (.int i) (.cons (.int z) (.cons (.int k) (.cons (.int s) .nil))))
    obtain ⟨v, h1, h2⟩ := r.get h
    exact ⟨p, cellV c i z k s, (j : Int), v, rfl, rfl, l_of hp, atI_nat h1, q.here kk h2 rfl⟩
theorem v_poolLen (ha : EvX (WQ p c ns i z k s) K ta Γ (.adr c)) : EvX (WQ p c ns i z k s) K (tCB (rLen K) (tCons ta tNil)) Γ (.int (ns.length : Int)) := v_cbx (a_consx ha a_nil) fun G H xs kk r Q q => by
  cases r with
  | cons r r0 =>
    cases r0
    cases r
    exact ⟨c, _, rfl, .inl (l_of kk.inv.2.1), by rw [List.length_map]; exact q.here kk (.int _) rfl⟩
theorem v_poolAt {x : Int} (ha : EvX (WQ p c ns i z k s) K ta Γ (.adr c)) (hb : EvX (WQ p c ns i z k s) K tb Γ (.int i)) (h0 : 0 ≤ i) (h : ns[i.toNat]? = some x) : EvX (WQ p c ns i z k s) K (tOp (rIxL K) ta tb) Γ (.int x) :=
  v_opx ha hb fun G H v w kk rx ry Q q => by
    cases rx
    cases ry
    have e : i = ((i.toNat : Nat) : Int) := by omega
    refine ⟨c, ns.map V.int, i, .int x, rfl, rfl, l_of kk.inv.2.1, ?_, q.here kk (.int _) rfl⟩
    rw [e]
    exact atI_nat (by rw [List.getElem?_map, h]; rfl)
/-- pool[j] = e -/
theorem g_pool {j : Nat} {i' z' k' s' : Int} {x : Int} (h : EvX (WQ p c ns i z k s) K te Γ (.int x)) (ha : EvX (WQ p c ns i z k s) K ta Γ (.adr p)) (S : S4 (WQ p c ns i z k s) K G1 G0 H0 Γ [] σ G H) (hj : j < 5) (he : (cellV c i z k s).set j (.int x) = cellV c i' z' k' s')
    (kk : ∀ G2 H2, S4 (WQ p c ns i' z' k' s') K G1 G0 H0 Γ [] σ G2 H2 → D.nx σ H2) : tAsg te (gSub ta (tC (.int (j : Int))) rSetL) D σ H :=
  h σ G H S.env S.ok _ fun v d G2 H2 st e r => by
    subst e
    cases r
    have S2 := S.step st
    refine ha σ G2 H2 S2.env S2.ok _ fun v d G3 H3 st3 e r => ?_
    subst e
    cases r
    have S3 := S2.step st3
    obtain ⟨n1, n2, n3⟩ := S3.ok.inv
    refine ⟨p, cellV c i z k s, (j : Int), j, rfl, rfl, n3, Evl.ixN_nat hj, ?_⟩
    rw [he]
    have gp : G3 p = none := S3.ok.off p (.inl rfl)
    have eg : Ex G3 (upd H3 p (.lst (cellV c i' z' k' s'))) := fun a u e => by
      rw [upd_ne (ne_of_none e gp)]
      exact S3.ok.ex a u e
    have inv : (WQ p c ns i' z' k' s').I (upd H3 p (.lst (cellV c i' z' k' s'))) := ⟨n1, by rw [upd_ne (Ne.symm n1)]; exact n2, upd_same⟩
    refine kk G3 _ ⟨S3.env, ⟨eg, inv, S3.ok.off⟩, ⟨S3.stp.gg, eg, fun a u hm e => ?_, S3.stp.nw, inv⟩, (fun l ds hm => nomatch hm), List.nodup_nil, S3.fr⟩
    rw [upd_ne (fun q => hm (.inl q))]
    exact S3.stp.hh a u hm e
theorem q_pool {j : Nat} {i' z' k' s' : Int} {x : Int} (h : EvX (WQ p c ns i z k s) K te Γ (.int x)) (ha : EvX (WQ p c ns i z k s) K ta Γ (.adr p)) (S : S4 (WQ p c ns i z k s) K G1 G0 H0 Γ [] σ G H) (hj : j < 5) (he : (cellV c i z k s).set j (.int x) = cellV c i' z' k' s')
    (kk : ∀ G2 H2, S4 (WQ p c ns i' z' k' s') K G1 G0 H0 Γ [] σ G2 H2 → tz D σ H2) : tSeq (tAsg te (gSub ta (tC (.int (j : Int))) rSetL)) tz D σ H := g_pool (D := { D with nx := tz D }) h ha S hj he kk
/-- the same, the value told by what it is -/
theorem g_poolP {j : Nat} (h : Ev (WQ p c ns i z k s) K te Γ fun d => ∃ v, d = .int v) (ha : EvX (WQ p c ns i z k s) K ta Γ (.adr p)) (S : S4 (WQ p c ns i z k s) K G1 G0 H0 Γ [] σ G H) (hj : j = 2)
    (kk : ∀ x G2 H2, S4 (WQ p c ns i x k s) K G1 G0 H0 Γ [] σ G2 H2 → D.nx σ H2) : tAsg te (gSub ta (tC (.int (j : Int))) rSetL) D σ H :=
  h σ G H S.env S.ok _ fun v d G2 H2 st e r => by
    obtain ⟨x, rfl⟩ := e
    cases r
    subst hj
    have S2 := S.step st
    refine g_pool (te := tC (.int x)) (j := 2) v_int ha S2 (by omega) rfl (kk x)
theorem q_of_p (S : S4 (WP p c ns) K G1 G0 H0 Γ [] σ G H) : ∃ i z k s, 0 ≤ i ∧ S4 (WQ p c ns i z k s) K G1 G H Γ [] σ G H := by
  obtain ⟨n1, n2, i, z, k, s, h0, n3⟩ := S.ok.inv
  have k2 : Ok (WQ p c ns i z k s) G H := ⟨S.ok.ex, ⟨n1, n2, n3⟩, S.ok.off⟩
  exact ⟨i, z, k, s, h0, S.env, k2, Stp.refl k2, (fun l ds hm => nomatch hm), List.nodup_nil, S.fr⟩
theorem p_of_q (h0 : 0 ≤ i) (h : Stp (WQ p c ns i z k s) G H G2 H2) : Stp (WP p c ns) G H G2 H2 := ⟨h.gg, h.gh, h.hh, h.nw, ⟨h.inv.1, h.inv.2.1, i, z, k, s, h0, h.inv.2.2⟩⟩
end
end Ly

set_option maxHeartbeats 2000000
namespace Ly
open PySem L2 PySem.Spec PyProof.Rows
/-! ## the defs of the text -/
def Df (K : PySem.W.Frag) (mg : Str → Option Value) (x : Str) (st : Stmt) : Prop := ∃ f fd, Fun K x x st f fd ∧ mg x = some (.ref f)
section
variable {P : Program} {w : World} {K : PySem.W.Frag} {mg : Str → Option Value} {base : Heap}
theorem cal_of {x : Str} {st : Stmt} {N ps : List Str} {k : Nat} {sp : Sp} (D : Df K mg x st)
    (hb : ∀ (kV doc pm : Value) (an : Option Addr) (cdv ct : Value) (us : List Value), us.length = ps.length → bindArgs (PySem.W.fnOf x x (defArgs st) (defBody st) (defScope st) .none kV doc pm an cdv ct) ⟨us, []⟩ = pure (ps.zip us))
    (S : FnScope N ps (defScope st)) (len : ∀ vs H Q E, sp vs H Q E → vs.length = ps.length)
    (hbody : ∀ (f : Addr) (cdv : Value) (A : Around) (outer : List PySem.Env) (s : Shared) (H : Hp) (vs : List V) (Q : VK) (E : XK), Room k (A.deeper (envOfC x (defScope st) s.heap.objs.size f cdv)) → sp vs H Q E →
      ∃ t, PSs (cxOf CX0 P w K mg base N x (defScope st) f cdv A outer s H E).nox (defBody st) t ∧ t { nx := fun _ H' => Q .non H', rt := Q } (L2.start N vs) H) : C8.Cal P w K mg base (k + 1) x sp [] := by
  obtain ⟨f, fd, F, hm⟩ := D
  exact ⟨⟨f, fd, ps, [], F.ok S len (hbody f), hm, F.kp, F.binds hb, .nil⟩⟩
theorem cal_imp {x : Str} {k : Nat} {sp sp' : Sp} (c : C8.Cal P w K mg base k x sp []) (h : ∀ vs H Q E, sp' vs H Q E → sp vs H Q E) : C8.Cal P w K mg base k x sp' [] := by
  obtain ⟨f, fd, ps, ds, F, hm, kp, b, d⟩ := c.ex
  exact ⟨⟨f, fd, ps, ds, F.imp h, hm, kp, b, d⟩⟩
end
section
variable {W : Wd} {K : PySem.W.Frag} {Γ : List (Option Dat)} {ta tb tc te tl : TE} {tt tu : TT} {tA : TA} {d : Dat}
theorem v_cn {v : V} {d : Dat} (h : ∀ G, Rep K G v d) : EvX W K (tC v) Γ d := fun σ G H n k Q q => q.here k (h G) rfl
theorem v_ix0 {ds : List Dat} (ha : EvX W K ta Γ (.tup ds)) (h : ds[0]? = some d) : EvX W K (tOp (rIxT K) ta (tC (.int 0))) Γ d := v_ixT (j := 0) ha v_int rfl h
variable {G1 G0 H0 G H : Hp} {O : List (Addr × List Dat)} {σ : L2.St} {D : Ends} {tz : TS}
theorem g_aug {i : Nat} {f : Int → Int → Int} {a b : Int} (hx : Γ[i]? = some (some (.int a))) (h : EvX W K te Γ (.int b)) (S : S4 W K G1 G0 H0 Γ O σ G H) (k : ∀ σ2 G2 H2, S4 W K G1 G0 H0 (Γ.set i (some (.int (f a b)))) O σ2 G2 H2 → D.nx σ2 H2) : tAug i te (ipI f) D σ H := by
  obtain ⟨v, h1, h2⟩ := S.env.at' i _ hx
  cases h2
  refine ⟨.int a, h1, h σ G H S.env S.ok _ fun y d G2 H2 s e r => ?_⟩
  subst e
  cases r
  exact ⟨a, b, rfl, rfl, k _ G2 H2 ((S.step s).set (.int _))⟩
theorem q_aug {i : Nat} {f : Int → Int → Int} {a b : Int} (hx : Γ[i]? = some (some (.int a))) (h : EvX W K te Γ (.int b)) (S : S4 W K G1 G0 H0 Γ O σ G H) (k : ∀ σ2 G2 H2, S4 W K G1 G0 H0 (Γ.set i (some (.int (f a b)))) O σ2 G2 H2 → tz D σ2 H2) : tSeq (tAug i te (ipI f)) tz D σ H := g_aug (D := { D with nx := tz D }) hx h S k
/-! ## subscripts of lists and tuples alike -/
theorem v_ixDT {ds : List Dat} {i : Int} {j : Nat} (ha : EvX W K ta Γ (.tup ds)) (hb : EvX W K tb Γ (.int i)) (e : i = (j : Int)) (h : ds[j]? = some d) : EvX W K (tOp (rIx K) ta tb) Γ d := v_opx ha (e ▸ hb) fun G H x y k rx ry Q q => .inr (.inl (rv_ixT h G H x y k rx ry Q q))
theorem v_ixDL {ds : List Dat} {i : Int} {j : Nat} (ha : EvX W K ta Γ (.lst ds)) (hb : EvX W K tb Γ (.int i)) (e : i = (j : Int)) (h : ds[j]? = some d) : EvX W K (tOp (rIx K) ta tb) Γ d := v_opx ha (e ▸ hb) fun G H x y k rx ry Q q => .inl (rv_ixL h G H x y k rx ry Q q)
/-- isinstance(x, T) by the data -/
theorem v_is {i : Nat} {T : String} {c : Bool} (h : Γ[i]? = some (some d)) (ht : typed d = true) (hk : kitB (tyN d) T = some c) : EvX W K (tCB (rIsi K) (tCons (tVar i) (tCons (tC (.ty T)) tNil))) Γ (.bl c) := v_isi (v_var h) ht (kit_ty hk)
abbrev rDivmod : List V → Hp → VK → Prop := fun xs H Q => ∃ i j, xs = [.int i, .int j] ∧ CDivP i j ∧ ∀ p, H p = none → Q (.ref p) (upd H p (.tup [.int (i / j), .int (i % j)]))
theorem v_divmod {i j : Int} (ha : EvX W K ta Γ (.int i)) (hb : EvX W K tb Γ (.int j)) (hc : CDivP i j) : EvX W K (tCB rDivmod (tCons ta (tCons tb tNil))) Γ (.tup [.int (i / j), .int (i % j)]) := v_cbx (a_consx ha (a_consx hb a_nil)) fun G H xs k r Q q => by
  cases r with
  | cons r1 r =>
    cases r with
    | cons r2 r =>
      cases r
      cases r1
      cases r2
      exact ⟨i, j, rfl, hc, fun p hp => q _ _ _ _ (Stp.new k hp) rfl (.tup (t_of upd_same) (.cons (.int _) (.cons (.int _) .nil)))⟩
/-! ## the pool of draws: its defs' promises -/
abbrev dI (ns : List Int) : List Dat := ns.map Dat.int
def spPool (K : PySem.W.Frag) : Sp := fun vs H Q _ => ∃ G ns, Ok Wd0 G H ∧ Reps K G vs [.lst (dI ns)] ∧ ns.length ≤ 63 ∧ ∀ p c H2, Ex H H2 → H p = none → H c = none → (WP p c ns).I H2 → Q (.ref p) H2
/-- of a draw: from 0 to many - 1 -/
def Drawn (m : Int) : Dat → Prop := fun d => ∃ v, d = .int v ∧ 0 ≤ v ∧ v < m
def A_draw (p : Addr) : Sig := fun ds P => ∃ m : Int, 0 < m ∧ m < 1000000000 ∧ ds = [.adr p, .int m] ∧ P = Drawn m
def spDraw (K : PySem.W.Frag) : Sp := fun vs H Q E => ∃ p c ns, spOf (WP p c ns) K (A_draw p) vs H Q E
variable {p c : Addr} {ns : List Int} {E : XK}
theorem v_draw {m : Int} (ha : EvX (WP p c ns) K ta Γ (.adr p)) (hb : EvX (WP p c ns) K tb Γ (.int m)) (h0 : 0 < m) (h1 : m < 1000000000) : Ev (WP p c ns) K (tCall (spDraw K) [] E (tCons ta (tCons tb tNil))) Γ (Drawn m) := fun σ G H n k Q q =>
  a_consx ha (a_consx hb a_nil) σ G H n k _ fun vs ds G2 H2 s e r => by
    subst e
    rw [List.append_nil]
    exact ⟨p, c, ns, G2, _, _, s.ok k, r, ⟨m, h0, h1, rfl, rfl⟩, q.step s⟩
theorem g_newpool {i : Nat} (h : EvX Wd0 K ta Γ (.lst (dI ns))) (hl : ns.length ≤ 63) (S : S4 Wd0 K G1 G0 H0 Γ [] σ G H) (k : ∀ p c σ2 G2 H2, S4 (WP p c ns) K G2 G2 H2 (Γ.set i (some (.adr p))) [] σ2 G2 H2 → D.nx σ2 H2) : tAsg (tCall (spPool K) [] E (tCons ta tNil)) (gName i) D σ H := by
  refine a_consx h a_nil σ G H S.env S.ok (fun vs H1 => spPool K (vs ++ []) H1 (fun x H2 => D.nx (σ.set i (some x)) H2) E) fun vs ds G2 H2 s e r => ?_
  · subst e
    rw [List.append_nil]
    have S2 := S.step s
    refine ⟨G2, ns, S2.ok, r, hl, fun p c H3 e hp hc hI => ?_⟩
    have none_of : ∀ {a : Addr}, H2 a = none → G2 a = none := fun {a} ha => by
      cases q : G2 a with
      | none => rfl
      | some u =>
        rw [S2.ok.ex a u q] at ha
        cases ha
    have k2 : Ok (WP p c ns) G2 H3 := ⟨S2.ok.ex.trans e, hI, fun a ha => by
      rcases ha with rfl | rfl
      · exact none_of hp
      · exact none_of hc⟩
    exact k p c _ G2 H3 ⟨S2.env.set (.adr p), k2, Stp.refl k2, (fun _ _ h => nomatch h), List.nodup_nil, Ex.refl _⟩
theorem q_newpool {i : Nat} (h : EvX Wd0 K ta Γ (.lst (dI ns))) (hl : ns.length ≤ 63) (S : S4 Wd0 K G1 G0 H0 Γ [] σ G H) (k : ∀ p c σ2 G2 H2, S4 (WP p c ns) K G2 G2 H2 (Γ.set i (some (.adr p))) [] σ2 G2 H2 → tz D σ2 H2) : tSeq (tAsg (tCall (spPool K) [] E (tCons ta tNil)) (gName i)) tz D σ H := g_newpool (D := { D with nx := tz D }) h hl S k
/-- the promise of the comparing def, for data nested at most n deep -/
def A_like (n : Nat) : Sig := fun ds P => ∃ d, Pl n d ∧ ds = [d, d] ∧ P = (· = .bl true)
def A_spread : Sig := fun ds P => ∃ x : Int, ds = [.int x] ∧ P = fun d => ∃ v, d = .int v
theorem EvN.evx {R : List Dat → Prop} {es : List Dat} (h : EvN W K te Γ R) (i : ∀ ds, R ds → ds = es) : EvX W K te Γ (.lst es) := EvN.ev h fun ds r => by rw [i ds r]
end
theorem kb_bool_bool : kitB "bool" "bool" = some true := by decide +kernel
theorem kb_bool_int : kitB "bool" "int" = some true := by decide +kernel
theorem kb_bool_str : kitB "bool" "str" = some false := by decide +kernel
theorem kb_bool_tuple : kitB "bool" "tuple" = some false := by decide +kernel
theorem kb_bool_list : kitB "bool" "list" = some false := by decide +kernel
theorem kb_int_bool : kitB "int" "bool" = some false := by decide +kernel
theorem kb_int_int : kitB "int" "int" = some true := by decide +kernel
theorem kb_int_str : kitB "int" "str" = some false := by decide +kernel
theorem kb_int_tuple : kitB "int" "tuple" = some false := by decide +kernel
theorem kb_int_list : kitB "int" "list" = some false := by decide +kernel
theorem kb_str_bool : kitB "str" "bool" = some false := by decide +kernel
theorem kb_str_int : kitB "str" "int" = some false := by decide +kernel
theorem kb_str_str : kitB "str" "str" = some true := by decide +kernel
theorem kb_str_tuple : kitB "str" "tuple" = some false := by decide +kernel
theorem kb_str_list : kitB "str" "list" = some false := by decide +kernel
theorem kb_tuple_bool : kitB "tuple" "bool" = some false := by decide +kernel
theorem kb_tuple_int : kitB "tuple" "int" = some false := by decide +kernel
theorem kb_tuple_str : kitB "tuple" "str" = some false := by decide +kernel
theorem kb_tuple_tuple : kitB "tuple" "tuple" = some true := by decide +kernel
theorem kb_tuple_list : kitB "tuple" "list" = some false := by decide +kernel
theorem kb_list_bool : kitB "list" "bool" = some false := by decide +kernel
theorem kb_list_int : kitB "list" "int" = some false := by decide +kernel
theorem kb_list_str : kitB "list" "str" = some false := by decide +kernel
theorem kb_list_tuple : kitB "list" "tuple" = some false := by decide +kernel
theorem kb_list_list : kitB "list" "list" = some true := by decide +kernel
end Ly

set_option maxHeartbeats 2000000
namespace Ly
open PySem L2 PySem.Spec PyProof.Rows
section
variable {W : Wd} {K : PySem.W.Frag} {Γ : List (Option Dat)} {ta tb tc te tl tn : TE} {tt tu : TT} {tA : TA} {P R : Dat → Prop} {d a b : Dat} {G1 G0 H0 G H : Hp} {O : List (Addr × List Dat)} {σ : L2.St} {D : Ends} {tz ts tw : TS}
/-- a call whose value is told by what the promise says of the arguments -/
theorem v_callI {A : Sig} {E : XK} {R : List Dat → Prop} (h : EvA W K tA Γ R) (hs : ∀ ds, R ds → ∃ P', A ds P' ∧ ∀ d, P' d → P d) : Ev W K (tCall (spOf Wd0 K A) [] E tA) Γ P := fun σ G H n k Q q =>
  h σ G H n k _ fun vs ds G2 H2 s p r => by
    rw [List.append_nil]
    obtain ⟨P', h1, h2⟩ := hs ds p
    exact ⟨G2, ds, P', (s.ok k).pure, r, h1, fun v d G3 H3 t pd rd => q v d G3 H3 (s.trans (Stp.of0 (s.ok k) t)) (h2 d pd) rd⟩
/-- an item of a written list at a drawn place -/
theorem v_pick {ds : List Dat} {m : Int} (ha : EvX W K ta Γ (.lst ds)) (hb : Ev W K tb Γ (Drawn m)) (hl : (ds.length : Int) = m) : Ev W K (tOp (rIxL K) ta tb) Γ (fun d => d ∈ ds) := v_op ha hb fun x y ex ⟨v, ey, h0, h1⟩ => by
  subst ex ey
  have hlt : v.toNat < ds.length := by omega
  have hx : ds[v.toNat]? = some ds[v.toNat] := List.getElem?_eq_getElem hlt
  have e : v = ((v.toNat : Nat) : Int) := by omega
  rw [e]
  intro G H x y k rx ry Q q
  exact rv_ixL hx G H x y k rx ry Q fun v d G2 H2 s p r => q v d G2 H2 s (by rw [p]; exact List.getElem_mem hlt) r
theorem v_pickT {ds : List Dat} {m : Int} (ha : EvX W K ta Γ (.tup ds)) (hb : Ev W K tb Γ (Drawn m)) (hl : (ds.length : Int) = m) : Ev W K (tOp (rIxT K) ta tb) Γ (fun d => d ∈ ds) := v_op ha hb fun x y ex ⟨v, ey, h0, h1⟩ => by
  subst ex ey
  have hlt : v.toNat < ds.length := by omega
  have hx : ds[v.toNat]? = some ds[v.toNat] := List.getElem?_eq_getElem hlt
  have e : v = ((v.toNat : Nat) : Int) := by omega
  rw [e]
  intro G H x y k rx ry Q q
  exact rv_ixT hx G H x y k rx ry Q fun v d G2 H2 s p r => q v d G2 H2 s (by rw [p]; exact List.getElem_mem hlt) r
/-- a test upon a drawn number -/
theorem b_drawn {r : R2} {m : Int} {y : Dat} (h : Ev W K ta Γ (Drawn m)) (hb : EvX W K tb Γ y) (hr : ∀ v, 0 ≤ v → v < m → ∃ c, RV W K r (.int v) y (· = .bl c)) : EvB W K (tTest (tOp r ta tb)) Γ fun _ => True :=
  b_test (v_op h hb fun x z ⟨v, e, h0, h1⟩ ez => by
    subst e ez
    obtain ⟨c, hc⟩ := hr v h0 h1
    intro G H x y k rx ry Q q
    exact hc G H x y k rx ry Q fun v d G2 H2 s p r => q v d G2 H2 s ⟨c, p, trivial⟩ r)
theorem b_drawnEq {m j : Int} (h : Ev W K ta Γ (Drawn m)) (hb : EvX W K tb Γ (.int j)) : EvB W K (tTest (tOp rEq ta tb)) Γ fun _ => True := b_drawn h hb fun v _ _ => ⟨_, rv_eq rfl rfl rfl⟩
theorem b_drawnNe {m j : Int} (h : Ev W K ta Γ (Drawn m)) (hb : EvX W K tb Γ (.int j)) : EvB W K (tTest (tOp rNe ta tb)) Γ fun _ => True := b_drawn h hb fun v _ _ => ⟨_, rv_ne rfl rfl rfl⟩
theorem b_drawnGt {m j : Int} (h : Ev W K ta Γ (Drawn m)) (hb : EvX W K tb Γ (.int j)) : EvB W K (tTest (tOp (rI0 fun i j => .bl (decide (j < i))) ta tb)) Γ fun _ => True := b_drawn h hb fun v _ _ => ⟨_, rv_I0 (g := fun i j => .bl (decide (j < i))) fun _ => .bl _⟩
theorem b_drawnLt {m j : Int} (h : Ev W K ta Γ (Drawn m)) (hb : EvX W K tb Γ (.int j)) : EvB W K (tTest (tOp (rI0 fun i j => .bl (decide (i < j))) ta tb)) Γ fun _ => True := b_drawn h hb fun v _ _ => ⟨_, rv_I0 (g := fun i j => .bl (decide (i < j))) fun _ => .bl _⟩
/-- lists of drawn numbers -/
def InB (b : Int) (ns : List Int) : Prop := ∀ x ∈ ns, 0 ≤ x ∧ x < b
theorem each_drawn {b : Int} : ∀ {ds : List Dat} {n : Nat}, Each (fun _ => Drawn b) n ds → ∃ ns, ds = dI ns ∧ ns.length = n ∧ InB b ns := fun {ds n} h => by
  have hh : ∀ d ∈ ds, Drawn b d := fun d hd => by
    obtain ⟨i, hi, e⟩ := List.getElem_of_mem hd
    exact h.2 i d (by rw [List.getElem?_eq_getElem hi, e])
  have hl := h.1
  clear h
  induction ds generalizing n with
  | nil => exact ⟨[], rfl, hl, fun x hx => by cases hx⟩
  | cons d ds ih =>
    obtain ⟨v, rfl, h0, h1⟩ := hh d List.mem_cons_self
    obtain ⟨ns, e, e2, e3⟩ := ih (n := ds.length) (fun d hd => hh d (List.mem_cons_of_mem _ hd)) rfl
    refine ⟨v :: ns, by rw [e]; rfl, by rw [List.length_cons, e2, ← hl, List.length_cons], fun x hx => ?_⟩
    rcases List.mem_cons.mp hx with rfl | hx
    · exact ⟨h0, h1⟩
    · exact e3 x hx
theorem n_lcD {j : Nat} {b m : Int} (hn : Ev W K tn Γ (Drawn m)) (hm : m ≤ 10000) (he : ∀ i : Nat, Ev W K te ((wipeG Γ [j]).set j (some (.int (i : Int)))) (Drawn b)) :
    EvN W K (tLc (iRng1 (tCons tn tNil)) (gName j) tYes te [j]) Γ fun ds => ∃ ns, ds = dI ns ∧ (ns.length : Int) < m ∧ InB b ns :=
  n_lcR (fun _ i ds => Each (fun _ => Drawn b) i ds) (EvA.imp (a_cons hn a_nil) fun ds ⟨d, r, e, ⟨v, ed, h0, h1⟩, er⟩ => ⟨v, by rw [e, ed, er], ⟨by omega, by omega⟩, Each.nil, fun i hi => tn_P (by omega) (he i), fun ds h => by
    obtain ⟨ns, h2, h3, h4⟩ := each_drawn h
    exact ⟨ns, h2, by omega, h4⟩⟩)
/-- many draws -/
theorem n_lcE {j : Nat} {b m : Int} (hn : EvX W K tn Γ (.int m)) (h0 : 0 ≤ m) (hm : m ≤ 10000) (he : ∀ i : Nat, Ev W K te ((wipeG Γ [j]).set j (some (.int (i : Int)))) (Drawn b)) :
    EvN W K (tLc (iRng1 (tCons tn tNil)) (gName j) tYes te [j]) Γ fun ds => ∃ ns, ds = dI ns ∧ (ns.length : Int) = m ∧ InB b ns :=
  n_lcR (fun _ i ds => Each (fun _ => Drawn b) i ds) (EvA.imp (a_cons hn a_nil) fun ds ⟨d, r, e, ed, er⟩ => ⟨m, by rw [e, ed, er], ⟨by omega, by omega⟩, Each.nil, fun i hi => tn_P (by omega) (he i), fun ds h => by
    obtain ⟨ns, h2, h3, h4⟩ := each_drawn h
    exact ⟨ns, h2, by omega, h4⟩⟩)
/-- range(n), n told by what it is -/
theorem g_for1P {R : Int → Prop} {j : Nat} {tb : TS} (h : EvA W K tA Γ fun ds => ∃ n, ds = [.int n] ∧ R n) (hn : ∀ n, R n → -100000 ≤ n ∧ n ≤ 100000) (S : S4 W K G1 G0 H0 Γ O σ G H) (I : Nat → List (Option Dat) → List (Addr × List Dat) → Prop) (h0 : I 0 Γ O)
    (hs : ∀ n (i : Nat) Γ' O' σ' G' H', R n → (i : Int) < n → I i Γ' O' → S4 W K G1 G0 H0 (Γ'.set j (some (.int (i : Int)))) O' σ' G' H' → tb { D with nx := Word W K G1 G0 H0 (I (i + 1)), ct := Word W K G1 G0 H0 (I (i + 1)), bk := D.nx } σ' H')
    (hd : ∀ n Γ' O' σ' G' H', R n → I n.toNat Γ' O' → S4 W K G1 G0 H0 Γ' O' σ' G' H' → D.nx σ' H') : tFor (iRng1 tA) (gName j) tb D σ H :=
  h σ G H S.env S.ok _ fun vs ds G2 H2 s ⟨n, e, hR⟩ r => by
    subst e
    have hb := hn n hR
    cases r with
    | cons r r0 =>
      cases r0
      cases r
      refine ⟨n, rfl, by omega, by omega, g_forR (lo := 0) I h0 (S.step s) (fun i Γ' O' σ' G' H' hi hI S' => ?_) (fun Γ' O' σ' G' H' hI S' => hd n Γ' O' σ' G' H' hR hI S')⟩
      rw [Int.zero_add] at S'
      exact hs n i Γ' O' σ' G' H' hR (by omega) hI S'
theorem q_for1P {R : Int → Prop} {j : Nat} {tb : TS} (h : EvA W K tA Γ fun ds => ∃ n, ds = [.int n] ∧ R n) (hn : ∀ n, R n → -100000 ≤ n ∧ n ≤ 100000) (S : S4 W K G1 G0 H0 Γ O σ G H) (I : Nat → List (Option Dat) → List (Addr × List Dat) → Prop) (h0 : I 0 Γ O)
    (hs : ∀ n (i : Nat) Γ' O' σ' G' H', R n → (i : Int) < n → I i Γ' O' → S4 W K G1 G0 H0 (Γ'.set j (some (.int (i : Int)))) O' σ' G' H' → tb { D with nx := Word W K G1 G0 H0 (I (i + 1)), ct := Word W K G1 G0 H0 (I (i + 1)), bk := tz D } σ' H')
    (hd : ∀ n Γ' O' σ' G' H', R n → I n.toNat Γ' O' → S4 W K G1 G0 H0 Γ' O' σ' G' H' → tz D σ' H') : tSeq (tFor (iRng1 tA) (gName j) tb) tz D σ H := g_for1P (D := { D with nx := tz D }) h hn S I h0 hs hd
mutual
theorem Pl.up : ∀ {n : Nat} {d : Dat}, Pl n d → Pl (n + 1) d
  | n, .non, _ => by simp [Pl]
  | n, .bl _, _ => by simp [Pl]
  | n, .int _, _ => by simp [Pl]
  | n, .str x, h => by
    have h : PyData.strOk x = true := by cases n <;> simpa [Pl] using h
    simpa [Pl] using h
  | n, .adr _, h => by cases n <;> simp [Pl] at h
  | n, .obj _ _, h => by cases n <;> simp [Pl] at h
  | n, .dct _, h => by cases n <;> simp [Pl] at h
  | 0, .tup _, h => by simp [Pl] at h
  | 0, .lst _, h => by simp [Pl] at h
  | n + 1, .tup ds, h => by
    rw [Pl] at h ⊢
    exact ⟨h.1, Pls.up h.2⟩
  | n + 1, .lst ds, h => by
    rw [Pl] at h ⊢
    exact ⟨h.1, Pls.up h.2⟩
theorem Pls.up : ∀ {n : Nat} {d : List Dat}, Pls n d → Pls (n + 1) d
  | _, [], _ => by simp [Pls]
  | n, d :: ds, h => by
    rw [Pls] at h ⊢
    exact ⟨Pl.up h.1, Pls.up h.2⟩
end
/-! ## the law's own promise -/
def spLaw (K : PySem.W.Frag) : Sp := fun vs H Q _ => ∃ (a : Addr) (ns : List Int), vs = [.ref a] ∧ SqL K H a (ns.map V.int) ∧ ns.length ≤ 63 ∧ ∀ H', Q (.bl true) H'
theorem law_start {vs : List V} {a : Addr} {ns : List Int} {N : List Str} (e : vs = [.ref a]) (h : SqL K H a (ns.map V.int)) : S4 Wd0 K H H H ([.lst (dI ns)].map some ++ List.replicate (N.length - [Dat.lst (dI ns)].length) Option.none) [] (L2.start N vs) H H := by
  subst e
  exact S4.start ⟨Ex.refl H, trivial, fun _ h => h.elim⟩ (.cons (.lst h (Reps.of_ints ns)) .nil)
theorem go_true {Q : VK} (h : ∀ H', Q (.bl true) H') : Go W K G H (· = .bl true) Q := fun v d G2 H2 s e r => by
  subst e
  cases r
  exact h H2
end
end Ly

set_option maxHeartbeats 4000000
namespace Ly
open PySem L2 PySem.Spec PyProof.Rows
/-! ## own classes: ==, !=, fields, isinstance -/
theorem ns_some_of {K : PySem.W.Frag} {h : Heap} {N : Addr} {mg : Str → Option Value} {n : Str} {v : Value} (X : K.In h) (G : h.Ns N mg) (e : PySem.W.nsIn K N n = some (some v)) : mg n = some v := by
  obtain ⟨o, es, ep, ho, hd, _, hf⟩ := G
  unfold PySem.W.nsIn at e
  split at e
  · rename_i c d es' n' sl q
    have := X _ _ q
    rw [ho] at this
    cases this
    cases hd
    split at e
    · rename_i en he
      cases e
      rw [← hf]
      unfold nsFind findBy
      rw [← Array.find?_toList, he]
      rfl
    · split at e <;> cases e
  · cases e
/-- a plain class of the text, with an own ==, at C -/
structure ClsQ (K : PySem.W.Frag) (C f : Addr) : Prop where
  cls : Cls K C
  eq : PySem.W.findIn K (.ref C) "__eq__" = some (some (.ref f))
  fn : PySem.W.isFn K (.ref f) = true
  obj : ∃ (nm q : Str) (N : Addr) (bs : List Value) (sn : List Str) (sub : List Value) (ab : Bool) (col : Option Bool) (dd : Option Addr) (k0 k1 k2 k3 k5 : Option Value) (newId : String),
    K.lookup C = some (excClassObj nm q C N bs [.type "object"] true sn sub ab col dd k0 k1 k2 k3 k5 newId) ∧ PySem.W.nsOkIn K N = true ∧ PySem.W.nsIn K N "__eq__" = some (some (.ref f)) ∧ PySem.W.nsIn K N "__ne__" = some none
  ha : PySem.W.findIn K (.ref C) "__class__" = some (some (.builtin "object.__class__"))
  hn : PySem.W.specialIn K (.builtin "object.__class__") "__get__" = some (some (.builtin "getset_descriptor.__get__"))
  ht : PySem.W.takesIn K (.builtin "object.__class__") = some true
  hm : PySem.W.mroIn K C (.type "object") = some true
section
variable {X : Cx} {C f : Addr} {fd : FuncData} {ps : List Str} {sp : Sp} {n : Nat}
def rEqOwn (C : Addr) (sp : Sp) (neg : Bool) : R2 := fun x y H Q => ∃ a b dx dy fs gs, x = .ref a ∧ y = .ref b ∧ H a = some (.ins C dx fs) ∧ H b = some (.ins C dy gs) ∧ sp [x, y] H (fun v H' => ∃ c, v = .bl c ∧ Q (.bl (if neg then !c else c)) H') E0
theorem eq_run (F : FnOk X.prog X.w X.K X.mg X.base CX0 n f fd ps sp) (hb : Binds X.K fd ps []) {A : Around} (hr : Room n A) (hf : A.frames = X.A.frames) {pins : List (Addr × Obj)} {s : Shared} {σ : L2.St} {H : Hp} {a b : Addr} {Q : VK} {E : Value → Shared → Prop} (I : Inv X pins σ H s) (h : sp [.ref a, .ref b] H Q E0) :
    wpAny (model X.prog X.w) A (call (.ref f) [.ref a, .ref b]) (EP X pins σ Q) E s := by
  have e0 : Env0 X.prog X.w X.K X.mg X.base A X.stack s H := by
    have e := I.env0
    exact ⟨by rw [hf]; exact e.frames, e.mod, e.bs, e.bsz, e.funs, e.frf, e.hok, e.bare⟩
  have hl := F.len _ _ _ _ h
  have r2 : Vals [V.ref a, V.ref b] [Value.ref a, Value.ref b] := .cons rfl (.cons rfl .nil)
  refine wpAny_call (codeAny_mono (F.run A X.stack s H ⟨[.ref a, .ref b], []⟩ [.ref a, .ref b] [.ref a, .ref b] _ E0 hr e0 (by
    have := hb s [.ref a, .ref b] I.kIn (by simpa using hl)
    simpa using this) r2 h) fun r s' hq => ?_)
  cases r with
  | error e => exact False.elim hq
  | ok fl =>
    cases fl with
    | ret w => exact I.after hq
    | next => exact False.elim hq
    | brk => exact False.elim hq
    | cont => exact False.elim hq
theorem op_eqOwn (F : FnOk X.prog X.w X.K X.mg X.base CX0 n f fd ps sp) (q : ClsQ X.K C f) (hb : Binds X.K fd ps []) (hr : Room n X.A) : OpR X (compareOp .Eq) (rEqOwn C sp false) := by
  intro pins s σ H x y u v Q I rx ry ⟨a, b, dx, dy, fs, gs, ex, ey, ha, hb', hs⟩
  subst ex ey
  cases rx
  cases ry
  obtain ⟨mA, J, _⟩ := ins_get I.hok ha
  obtain ⟨mB, J', _⟩ := ins_get I.hok hb'
  obtain ⟨od, J, _⟩ := J.look
  obtain ⟨od', J', _⟩ := J'.look
  obtain ⟨m, hF⟩ := I.fr
  show wpAny (model X.prog X.w) X.A (richCompare .Eq (.ref a) (.ref b)) (EP X pins σ Q) X.xe s
  refine PySem.W.cmp_K (op := .Eq) (tb := .ref C) hr.units0 hF I.ok.mod.kin J J'.type (by simp [PySem.W.notFirst]) q.eq q.fn ?_
  refine wpAny_mono (eq_run F hb hr rfl I hs) (fun r s' hq => ?_) fun _ _ x => x
  obtain ⟨z, H', I', rz, c, ez, hq⟩ := hq
  subst ez
  cases rz
  exact ⟨.bl c, H', I', rfl, hq⟩
theorem op_neOwn (F : FnOk X.prog X.w X.K X.mg X.base CX0 n f fd ps sp) (q : ClsQ X.K C f) (hb : Binds X.K fd ps []) (hr : Room (n + 1) X.A) : OpR X (compareOp .NotEq) (rEqOwn C sp true) := by
  intro pins s σ H x y u v Q I rx ry ⟨a, b, dx, dy, fs, gs, ex, ey, ha, hb', hs⟩
  subst ex ey
  cases rx
  cases ry
  obtain ⟨nm, qn, N, bs, sn, sub, ab, col, dd, k0, k1, k2, k3, k5, newId, hC, hN, he, hne⟩ := q.obj
  have X0 := I.kIn
  obtain ⟨of, hfo, hfc⟩ : ∃ of, s.heap.get? f = some of ∧ of.cls = .type "function" := by
    have e := q.fn
    unfold PySem.W.isFn PySem.W.typeIn at e
    have e : (X.K.lookup f).map (·.cls) = some (.type "function") := eq_of_beq e
    cases z : X.K.lookup f with
    | none =>
      rw [z] at e
      cases e
    | some o =>
      rw [z] at e
      exact ⟨o, X0 _ _ z, Option.some.inj e⟩
  obtain ⟨_, _, _, ea, _⟩ := (show ObjOk X.prog X.w H s.heap a (.ins C dx fs) from I.hok a _ ha)
  obtain ⟨_, _, _, eb, _⟩ := (show ObjOk X.prog X.w H s.heap b (.ins C dy gs) from I.hok b _ hb')
  have G := Heap.Ns.of_isNs (PySem.W.isNs_of_in X0 hN)
  have Y : s.heap.OwnEqNoNe a C f "object" [.type "object"] :=
    ⟨_, of, nm, qn, N, bs, true, sn, sub, ab, col, dd, k0, k1, k2, k3, k5, newId, _, _, ea, rfl, X0 _ _ hC, G, ns_some_of X0 G he, hfo, hfc, PySem.F.cmp_object.mro, PySem.F.cmp_object.eq.lookup, PySem.W.ns_none_of X0 G hne⟩
  obtain ⟨hh, g, d, t, os⟩ := s
  refine compareOp_ne_ownEq PySem.F.cmp_object Y eb rfl (by have := hr.units; omega) ?_
  refine wpAny_mono (eq_run F hb hr.in1 rfl I hs) (fun r s' hq => ?_) fun _ _ x => x
  obtain ⟨z, H', I', rz, c, ez, hq⟩ := hq
  subst ez
  cases rz
  exact ⟨c, rfl, .bl (!c), H', I', rfl, hq⟩
end
end Ly

set_option maxHeartbeats 4000000
namespace Ly
open PySem L2 PySem.Spec PyProof.Rows
/-! ## data without lists: an own list may be known for a while -/
mutual
def NL : Dat → Prop
  | .non => True
  | .bl _ => True
  | .int _ => True
  | .str _ => True
  | .adr _ => True
  | .tup ds => NLs ds
  | .lst _ => False
  | .obj _ fs => NLf fs
  | .dct es => NLd es
def NLs : List Dat → Prop
  | [] => True
  | d :: ds => NL d ∧ NLs ds
def NLf : List (Str × Dat) → Prop
  | [] => True
  | (_, d) :: ds => NL d ∧ NLf ds
def NLd : List (List Key × Dat) → Prop
  | [] => True
  | (_, d) :: ds => NL d ∧ NLd ds
end
def del (G : Hp) (l : Addr) : Hp := fun a => if a = l then none else G a
theorem del_ne {G : Hp} {l a : Addr} (h : a ≠ l) : del G l a = G a := by
  unfold del
  rw [if_neg h]
theorem del_same {G : Hp} {l : Addr} : del G l l = none := by
  unfold del
  rw [if_pos rfl]
section
variable {K : PySem.W.Frag} {G : Hp} {l : Addr} {xl : List V}
theorem sqt_del {a : Addr} {xs : List V} (hl : G l = some (.lst xl)) (h : SqT K G a xs) : SqT K (del G l) a xs := by
  rcases h with (h | ⟨o, h⟩) | h
  · refine .inl (.inl ?_)
    rw [del_ne (ne_of h hl (by intro z; cases z))]
    exact h
  · refine .inl (.inr ⟨o, ?_⟩)
    rw [del_ne (ne_of h hl (by intro z; cases z))]
    exact h
  · exact .inr h
mutual
theorem Rep.thaw (hl : G l = some (.lst xl)) : ∀ {v : V} {d : Dat}, NL d → Rep K G v d → Rep K (del G l) v d
  | _, _, _, .non => .non
  | _, _, _, .bl b => .bl b
  | _, _, _, .int i => .int i
  | _, _, _, .str x => .str x
  | _, _, _, .adr a => .adr a
  | _, _, n, .tup h r => by
    rw [NL] at n
    exact .tup (sqt_del hl h) (Reps.thaw hl n r)
  | _, _, n, .lst h r => by
    rw [NL] at n
    exact n.elim
  | _, _, n, .obj h r => by
    rw [NL] at n
    refine .obj (G := del G l) (by rw [del_ne (ne_of h hl (by intro z; cases z))]; exact h) (Flds.thaw hl n r)
  | _, _, n, .dct h r => by
    rw [NL] at n
    refine .dct (G := del G l) (by rw [del_ne (ne_of h hl (by intro z; cases z))]; exact h) (Dcts.thaw hl n r)
theorem Reps.thaw (hl : G l = some (.lst xl)) : ∀ {v : List V} {d : List Dat}, NLs d → Reps K G v d → Reps K (del G l) v d
  | _, _, _, .nil => .nil
  | _, _, n, .cons h r => by
    rw [NLs] at n
    exact .cons (Rep.thaw hl n.1 h) (Reps.thaw hl n.2 r)
theorem Flds.thaw (hl : G l = some (.lst xl)) : ∀ {v : List (Str × V)} {d : List (Str × Dat)}, NLf d → Flds K G v d → Flds K (del G l) v d
  | _, _, _, .nil => .nil
  | _, _, n, .cons h r => by
    rw [NLf] at n
    exact .cons (Rep.thaw hl n.1 h) (Flds.thaw hl n.2 r)
theorem Dcts.thaw (hl : G l = some (.lst xl)) : ∀ {v : List (List Key × V)} {d : List (List Key × Dat)}, NLd d → Dcts K G v d → Dcts K (del G l) v d
  | _, _, _, .nil => .nil
  | _, _, n, .cons h r => by
    rw [NLd] at n
    exact .cons (Rep.thaw hl n.1 h) (Dcts.thaw hl n.2 r)
end
end
theorem NLs.get : ∀ {ds : List Dat} {i : Nat} {d : Dat}, NLs ds → ds[i]? = some d → NL d
  | [], _, _, _, h => by simp at h
  | _ :: _, 0, _, p, h => by
    have e := Option.some.inj h
    subst e
    unfold NLs at p
    exact p.1
  | _ :: ds, i + 1, d, p, h => by
    rw [List.getElem?_cons_succ] at h
    unfold NLs at p
    exact NLs.get p.2 h
theorem NLs.ints : ∀ (ns : List Int), NLs (dI ns)
  | [] => by simp [NLs]
  | x :: ns => by
    rw [dI, List.map_cons, NLs]
    exact ⟨by simp [NL], NLs.ints ns⟩
section
variable {W : Wd} {K : PySem.W.Frag} {Γ : List (Option Dat)} {ta tb tc te tl tv : TE} {tt tu : TT} {tA : TA} {P R : Dat → Prop} {d a b : Dat} {G1 G0 H0 G H : Hp} {O : List (Addr × List Dat)} {σ : L2.St} {D : Ends} {tz ts tw : TS}
/-- what an own list at l was ahead of its being known -/
structure Thw (W : Wd) (G1 G0 H0 : Hp) (l : Addr) : Prop where
  g1 : G1 l = none
  g0 : G0 l = none
  h0 : H0 l = none
  m : ¬ W.m l
theorem S4.keepT {l : Addr} {ds : List Dat} {i : Nat} (hi : Γ[i]? = some (some (.adr l))) (S : S4 W K G1 G0 H0 Γ ((l, ds) :: O) σ G H) : Thw W G1 G0 H0 l ∧ σ[i]? = some (some (.ref l)) ∧ ∃ G2, S4 W K G1 G0 H0 (Γ.set i (some (.lst ds))) O σ G2 H ∧ ∃ xs, G2 l = some (.lst xs) ∧ Reps K G2 xs ds := by
  have o := S.own l ds List.mem_cons_self
  have n1 : G1 l = none := by
    cases q : G1 l with
    | none => rfl
    | some u =>
      have := S.fr l u q
      rw [o.g] at this
      cases this
  have n0 : G0 l = none := by
    cases q : G0 l with
    | none => rfl
    | some u =>
      have := S.stp.gg l u q
      rw [o.g] at this
      cases this
  obtain ⟨v, e1, e2⟩ := S.env.at' i _ hi
  have e3 := e2.adr_inv
  subst e3
  exact ⟨⟨n1, n0, o.h0, o.m⟩, e1, S4.keepX hi S⟩
theorem S4.thaw {l : Addr} {ds : List Dat} {i : Nat} (t : Thw W G1 G0 H0 l) (hi : σ[i]? = some (some (.ref l))) (hl : ∃ xs, G l = some (.lst xs) ∧ Reps K G xs ds) (S : S4 W K G1 G0 H0 Γ O σ G H) (hn : NLs ds)
    (hΓ : ∀ (j : Nat) d, j ≠ i → Γ[j]? = some (some d) → NL d) (hO : ∀ k es, (k, es) ∈ O → NLs es) : S4 W K G1 G0 H0 (Γ.set i (some (.adr l))) ((l, ds) :: O) σ (del G l) H := by
  obtain ⟨xs, h1, h2⟩ := hl
  have eg : Ex (del G l) G := fun a o e => by
    by_cases q : a = l
    · subst q
      rw [del_same] at e
      cases e
    · rw [del_ne q] at e
      exact e
  have ge : ∀ {G' : Hp}, G' l = none → Ex G' G → Ex G' (del G l) := fun {G'} hz e a o h => by
    rw [del_ne (ne_of_none h hz)]
    exact e a o h
  have hH : H l = some (.lst xs) := S.ok.ex l _ h1
  have stp : Stp W G0 H0 (del G l) H := ⟨ge t.g0 S.stp.gg, eg.trans S.ok.ex, S.stp.hh, fun a o e => S.stp.nw a o (eg a o e), S.stp.inv⟩
  have nd : ∀ k es, (k, es) ∈ O → k ≠ l := fun k es hm e => by
    have o := S.own k es hm
    rw [e] at o
    have := o.g
    rw [h1] at this
    cases this
  refine ⟨⟨by rw [List.length_set]; exact S.env.len, fun j d q => ?_⟩, ⟨stp.gh, stp.inv, fun a ha => ?_⟩, stp, fun k es hm => ?_, ?_, ge t.g1 S.fr⟩
  · by_cases hji : i = j
    · subst hji
      have hlt : i < Γ.length := by
        have := S.env.len
        rcases Nat.lt_or_ge i σ.length with z | z
        · omega
        · rw [List.getElem?_eq_none z] at hi
          cases hi
      rw [List.getElem?_set_self hlt] at q
      have e := Option.some.inj (Option.some.inj q)
      subst e
      exact ⟨_, hi, .adr l⟩
    · rw [List.getElem?_set_ne hji] at q
      obtain ⟨v, e1, e2⟩ := S.env.at' j d q
      exact ⟨v, e1, Rep.thaw h1 (hΓ j d (Ne.symm hji) q) e2⟩
  · rw [del_ne (fun e => t.m (by rw [← e]; exact ha))]
    exact S.ok.off a ha
  · rcases List.mem_cons.mp hm with e | hm
    · cases e
      exact ⟨del_same, t.h0, t.m, xs, hH, Reps.thaw h1 hn h2⟩
    · have o := S.own k es hm
      obtain ⟨ys, y1, y2⟩ := o.at'
      exact ⟨by rw [del_ne (nd k es hm)]; exact o.g, o.h0, o.m, ys, y1, Reps.thaw h1 (hO k es hm) y2⟩
  · rw [List.map_cons, List.nodup_cons]
    refine ⟨fun hm => ?_, S.nd⟩
    obtain ⟨⟨k, es⟩, hk, e⟩ := List.mem_map.mp hm
    exact nd k es hk e
theorem S4.swap {x y : Addr × List Dat} (S : S4 W K G1 G0 H0 Γ (x :: y :: O) σ G H) : S4 W K G1 G0 H0 Γ (y :: x :: O) σ G H := by
  refine ⟨S.env, S.ok, S.stp, fun l ds hm => S.own l ds ?_, ?_, S.fr⟩
  · simp only [List.mem_cons] at hm ⊢
    rcases hm with h | h | h
    · exact .inr (.inl h)
    · exact .inl h
    · exact .inr (.inr h)
  · have nd := S.nd
    simp only [List.map_cons, List.nodup_cons, List.mem_cons, not_or] at nd ⊢
    exact ⟨⟨fun e => nd.1.1 e.symm, nd.2.1⟩, nd.1.2, nd.2.2⟩
end
end Ly

set_option maxHeartbeats 4000000
namespace Ly
open PySem L2 PySem.Spec PyProof.Rows
def NLG (i : Nat) : Nat → List (Option Dat) → Prop
  | _, [] => True
  | k, none :: r => NLG i (k + 1) r
  | k, some d :: r => (k = i ∨ NL d) ∧ NLG i (k + 1) r
theorem NLG.at' {i : Nat} : ∀ {Γ : List (Option Dat)} {k : Nat}, NLG i k Γ → ∀ (j : Nat) d, k + j ≠ i → Γ[j]? = some (some d) → NL d
  | [], _, _, j, d, _, h => by simp at h
  | none :: r, k, n, 0, d, _, h => by simp at h
  | some e :: r, k, n, 0, d, hj, h => by
    have q := Option.some.inj (Option.some.inj h)
    subst q
    exact n.1.resolve_left (by omega)
  | none :: r, k, n, j + 1, d, hj, h => by
    rw [List.getElem?_cons_succ] at h
    exact NLG.at' (Γ := r) (k := k + 1) n j d (by omega) h
  | some e :: r, k, n, j + 1, d, hj, h => by
    rw [List.getElem?_cons_succ] at h
    exact NLG.at' (Γ := r) (k := k + 1) n.2 j d (by omega) h
theorem NLG.of {i : Nat} {Γ : List (Option Dat)} (n : NLG i 0 Γ) : ∀ (j : Nat) d, j ≠ i → Γ[j]? = some (some d) → NL d := fun j d hj h => n.at' j d (by omega) h
/-! ## an object that is being made -/
def WI (x C dx : Addr) (fs : List (Str × V)) : Wd where
  m := fun a => a = x
  I := fun H => H x = some (.ins C dx fs)
  loc := fun h e => by rw [e x rfl]; exact h
  tr := fun h hm => by
    subst hm
    exact ⟨_, h⟩
section
variable {W : Wd} {K : PySem.W.Frag} {Γ : List (Option Dat)} {ta tb tc te tl tv : TE} {tt tu : TT} {tA : TA} {P R : Dat → Prop} {d a b : Dat} {G1 G0 H0 G H G2 H2 : Hp} {O : List (Addr × List Dat)} {σ : L2.St} {D : Ends} {tz ts tw : TS} {x C dx CE : Addr} {fs : List (Str × V)} {f : Str}
theorem Stp.wi {fs gs : List (Str × V)} (s : Stp (WI x C dx fs) G H G2 H2) (h : H2 x = some (.ins C dx gs)) : Stp (WI x C dx gs) G H G2 H2 := ⟨s.gg, s.gh, s.hh, s.nw, h⟩
/-- self.f = e, self being made -/
theorem g_fld (h : Ev (WI x C dx fs) K tv Γ P) (ho : EvX (WI x C dx fs) K ta Γ (.adr x)) (hc : Cls K C) (hn : NoAttr K C f) (hl : fs.length < 1000) (S : S4 (WI x C dx fs) K G1 G0 H0 Γ [] σ G H)
    (k : ∀ y d G2 H2, P d → Rep K G2 y d → S4 (WI x C dx (putF f y fs)) K G1 G0 H0 Γ [] σ G2 H2 → D.nx σ H2) : sFld K ta tv f D σ H :=
  h σ G H S.env S.ok _ fun y d G2 H2 s p r => by
    have S2 := S.step s
    refine ho σ G2 H2 S2.env S2.ok _ fun v e G3 H3 s3 ee r3 => ?_
    subst ee
    cases r3
    have S3 := S2.step s3
    have hx : H3 x = some (.ins C dx fs) := S3.ok.inv
    refine ⟨x, C, dx, fs, rfl, hx, hc, hn, hl, ?_⟩
    have gx : G3 x = none := S3.ok.off x rfl
    have eg : Ex G3 (upd H3 x (.ins C dx (putF f y fs))) := fun a u e => by
      rw [upd_ne (ne_of_none e gx)]
      exact S3.ok.ex a u e
    refine k y d G3 _ p (r.mono s3.gg) ⟨S3.env, ⟨eg, upd_same, S3.ok.off⟩, ⟨S3.stp.gg, eg, fun a u hm e => ?_, S3.stp.nw, upd_same⟩, (fun _ _ hm => nomatch hm), List.nodup_nil, S3.fr⟩
    rw [upd_ne hm]
    exact S3.stp.hh a u hm e
theorem q_fld (h : Ev (WI x C dx fs) K tv Γ P) (ho : EvX (WI x C dx fs) K ta Γ (.adr x)) (hc : Cls K C) (hn : NoAttr K C f) (hl : fs.length < 1000) (S : S4 (WI x C dx fs) K G1 G0 H0 Γ [] σ G H)
    (k : ∀ y d G2 H2, P d → Rep K G2 y d → S4 (WI x C dx (putF f y fs)) K G1 G0 H0 Γ [] σ G2 H2 → tz D σ H2) : tSeq (sFld K ta tv f) tz D σ H := g_fld (D := { D with nx := tz D }) h ho hc hn hl S k
/-- what an __init__ makes of its arguments: the fields, or an error of the class at CE -/
abbrev InitSig := List Dat → Option (List (Str × Dat)) → Prop
def spInit (K : PySem.W.Frag) (C CE : Addr) (A : InitSig) : Sp := fun vs H Q E => ∃ G x dx ds vs' r, vs = .ref x :: vs' ∧ Ok (WI x C dx []) G H ∧ Reps K G vs' ds ∧ A ds r ∧ (r = none → ∀ H2, E (.ref CE) none H2) ∧
  (∀ fsd, r = some fsd → ∀ G2 H2 fs, Stp (WI x C dx fs) G H G2 H2 → Flds K G2 fs fsd → Q .non H2)
theorem spInit_len {A : InitSig} {n : Nat} (h : ∀ ds r, A ds r → ds.length = n) : ∀ vs H Q E, spInit K C CE A vs H Q E → vs.length = n + 1 := fun vs H Q E ⟨G, x, dx, ds, vs', r, e, _, r1, a, _⟩ => by rw [e, List.length_cons, r1.length, h ds r a]
/-- the call of a class, by values -/
theorem make_run {A : InitSig} {vs : List V} {ds : List Dat} {r : Option (List (Str × Dat))} {Q : VK} {E : XK} (k : Ok W G H) (rr : Reps K G vs ds) (ha : A ds r) (hE : r = none → ∀ H2, E (.ref CE) none H2) (q : ∀ fsd, r = some fsd → Go W K G H (· = .obj C fsd) Q) :
    ∀ x dx, H x = none → H dx = none → dx ≠ x → spInit K C CE A (.ref x :: (vs ++ [])) (upd (upd H dx (.own x)) x (.ins C dx [])) (fun v H2 => v = .non ∧ Q (.ref x) H2) E := fun x dx hx hdx hne => by
  rw [List.append_nil]
  have gx : G x = none := by
    cases e : G x with
    | none => rfl
    | some u =>
      rw [k.ex x u e] at hx
      cases hx
  have eH : ∀ a u, H a = some u → (upd (upd H dx (.own x)) x (.ins C dx [])) a = some u := fun a u e => by
    rw [upd_ne (ne_of_none e hx), upd_ne (ne_of_none e hdx)]
    exact e
  refine ⟨G, x, dx, ds, vs, r, rfl, ⟨fun a u e => eH a u (k.ex a u e), upd_same, fun a ha => by rw [ha]; exact gx⟩, rr, ha, hE, fun fsd er G2 H2 fs s fl => ⟨rfl, ?_⟩⟩
  have g2x : G2 x = none := by
    cases e : G2 x with
    | none => rfl
    | some u =>
      rcases s.nw x u e with z | z
      · rw [gx] at z
        cases z
      · rw [upd_same] at z
        cases z
  have gg : Ex G2 (upd G2 x (.ins C dx fs)) := Ex.new g2x
  have hx2 : H2 x = some (.ins C dx fs) := s.inv
  have keep : ∀ a u, H a = some u → H2 a = some u := fun a u e => s.hh a u (fun z => by
    have z : a = x := z
    rw [z, hx] at e
    cases e) (eH a u e)
  refine q fsd er _ (.obj C fsd) (upd G2 x (.ins C dx fs)) H2 ⟨s.gg.trans gg, fun a u e => ?_, fun a u _ e => keep a u e, fun a u e => ?_, ?_⟩ rfl (.obj upd_same (fl.mono gg))
  · by_cases q : a = x
    · subst q
      rw [upd_same] at e
      rw [hx2]
      exact e
    · rw [upd_ne q] at e
      exact s.gh a u e
  · by_cases q : a = x
    · subst q
      exact .inr hx
    · rw [upd_ne q] at e
      rcases s.nw a u e with z | z
      · exact .inl z
      · right
        cases h : H a with
        | none => rfl
        | some w =>
          rw [eH a w h] at z
          cases z
  · exact W.loc k.inv fun a ha => by
      obtain ⟨u, hu⟩ := W.tr k.inv ha
      rw [hu]
      exact keep a u hu
theorem v_make {A : InitSig} {ds : List Dat} {fsd : List (Str × Dat)} {E : XK} (h : EvAX W K tA Γ ds) (ha : A ds (some fsd)) : EvX W K (tMake C (spInit K C CE A) [] E tA) Γ (.obj C fsd) := fun σ G H n k Q q =>
  h σ G H n k _ fun vs ds' G2 H2 s e r => by
    subst e
    exact make_run (s.ok k) r ha (fun e => nomatch e) fun f e => by
      cases e
      exact q.step s
/-- the same where an error is wished for at the slots -/
def tMakeS (C : Addr) (sp : Sp) (E : L2.St → XK) (t : TA) : TE := fun σ H Q => t σ H fun vs H1 => ∀ x dx, H1 x = none → H1 dx = none → dx ≠ x → sp (.ref x :: (vs ++ [])) (upd (upd H1 dx (.own x)) x (.ins C dx [])) (fun v H2 => v = .non ∧ Q (.ref x) H2) (E σ)
/-- an attribute of a known object -/
theorem v_fld {fsd : List (Str × Dat)} (h : EvX W K ta Γ (.obj C fsd)) (hc : Cls K C) (hn : NoAttr K C f) (hl : fsd.lookup f = some d) : EvX W K (tFld K ta f) Γ d := fun σ G H n k Q q =>
  h σ G H n k _ fun v e G2 H2 s ee r => by
    subst ee
    cases r with
    | obj hg fl =>
      obtain ⟨u, h1, h2⟩ := fl.get hl
      exact ⟨_, C, _, _, u, rfl, (s.ok k).ex _ _ hg, hc, hn, h1, (q.step s).here (s.ok k) h2 rfl⟩
theorem Flds.none : ∀ {vs : List (Str × V)} {fs : List (Str × Dat)}, Flds K G vs fs → fs.lookup f = none → vs.lookup f = none
  | _, _, .nil, _ => rfl
  | _, _, .cons (f := g) h r, e => by
    rw [List.lookup_cons] at e ⊢
    by_cases q : (f == g) = true
    · rw [q] at e
      cases e
    · have q : (f == g) = false := by simpa using q
      rw [q] at e ⊢
      exact Flds.none r e
/-- a method of a known object: its promise over no world -/
theorem v_meth0 {A : Sig} {m : Str} {fsd : List (Str × Dat)} {E : XK} {R : List Dat → Prop} (h : EvX W K ta Γ (.obj C fsd)) (hm : fsd.lookup m = none) (h2 : EvA W K tA Γ R) (hs : ∀ ds, R ds → A (.obj C fsd :: ds) P) : Ev W K (tMeth C m (spOf Wd0 K A) [] E ta tA) Γ P := fun σ G H n k Q q =>
  h σ G H n k _ fun v e G2 H2 s ee r => by
    subst ee
    have k2 := s.ok k
    cases r with
    | @obj a C dx vs fs hg fl =>
      refine ⟨a, dx, vs, rfl, k2.ex _ _ hg, fl.none hm, ?_⟩
      refine h2 σ G2 H2 (n.mono s.gg) k2 _ fun ws ds G3 H3 s3 p r3 => ?_
      rw [List.append_nil]
      have s13 := s.trans s3
      exact ⟨G3, _, P, (s13.ok k).pure, .cons (.obj (s3.gg _ _ hg) (fl.mono s3.gg)) r3, hs ds p, fun v d G4 H4 t pd rd => q v d G4 H4 (s13.trans (Stp.of0 (s13.ok k) t)) pd rd⟩
/-- == and != by the class's own def -/
theorem v_eqOwn {A : Sig} {f1 f2 : List (Str × Dat)} {c neg : Bool} (h1 : EvX W K ta Γ (.obj C f1)) (h2 : EvX W K tb Γ (.obj C f2)) (hs : A [.obj C f1, .obj C f2] (· = .bl c)) : EvX W K (tOp (rEqOwn C (spOf Wd0 K A) neg) ta tb) Γ (.bl (if neg = true then !c else c)) := v_opx h1 h2 fun G H x y k rx ry Q q => by
  cases rx with
  | @obj a _ dx vs _ hg fl =>
    cases ry with
    | @obj b _ dy us _ hg2 fl2 =>
      exact ⟨a, b, dx, dy, vs, us, rfl, rfl, k.ex _ _ hg, k.ex _ _ hg2, G, _, _, k.pure, .cons (.obj hg fl) (.cons (.obj hg2 fl2) .nil), hs, fun v d G2 H2 t pd rd => by
        subst pd
        cases rd
        exact ⟨c, rfl, (q.step (Stp.of0 k t)).here ((Stp.of0 k t).ok k) (.bl _) rfl⟩⟩
/-- isinstance(x, C), x of the class -/
theorem v_isOwn {fsd : List (Str × Dat)} {f : Addr} (q : ClsQ K C f) (h : EvX W K ta Γ (.obj C fsd)) : EvX W K (tCB (rIsi K) (tCons ta (tCons (tC (.ref C)) tNil))) Γ (.bl true) := fun σ G H n k Q qq =>
  h σ G H n k _ fun v e G2 H2 s ee r => by
    subst ee
    have k2 := s.ok k
    cases r with
    | @obj a _ dx vs _ hg fl =>
      exact ⟨.ref a, .ref C, .ref C, .ref C, true, rfl, .own C, .base (.ins (k2.ex _ _ hg) q.cls q.ha q.hn q.ht q.hm), by
        unfold PySem.W.kitOne
        rw [if_pos (by simp)], (qq.step s).here k2 (.bl _) rfl⟩
end
section
variable {X : Cx} {CX : CXT} {k : Nat} {f C : Addr} {fd : FuncData} {ps : List Str} {sp : Sp} {E : L2.St → XK} {x m : Str} {p pos : Pos} {e : Expr} {es : List Expr} {t : TA}
theorem run_makeS {pp : List (Addr × Obj)} {σ : L2.St} {H : Hp} {s : Shared} {Q : VK} {us : List Value} {vs : List V} (M : Mk X.K C f) (F : FnOk X.prog X.w X.K X.mg X.base CX k f fd ps sp) (hr : Room (k + 1) X.A) (hb : Binds X.K fd ps [])
    (hx : PassesAt CX X σ (E σ)) (I : Inv X pp σ H s) (r : Vals vs us)
    (h : ∀ x dx, H x = none → H dx = none → dx ≠ x → sp (.ref x :: (vs ++ [])) (upd (upd H dx (.own x)) x (.ins C dx [])) (fun v H2 => v = .non ∧ Q (.ref x) H2) (E σ)) :
    wpAny (model X.prog X.w) X.A (call (.ref C) us) (EP X pp σ Q) X.xe s := by
  have w0 := h (s.heap.objs.size + 1) s.heap.objs.size (I.hok.fresh (Nat.le_succ _)) (I.hok.fresh (Nat.le_refl _)) (Nat.ne_of_lt (Nat.lt_succ_self _))
  have J2 := Inv.made (C := C) I
  have r2 : Vals (V.ref (s.heap.objs.size + 1) :: (vs ++ [])) (Value.ref (s.heap.objs.size + 1) :: (us ++ [])) := .cons rfl (r.append .nil)
  have hl : (Value.ref (s.heap.objs.size + 1) :: us ++ []).length = ps.length := by
    have e := r2.length
    rw [F.len _ _ _ _ w0] at e
    exact e.symm
  refine wpAny_call (make_map (f := f) I.kIn M.makes M.init (beq_iff_eq.mp M.fn) (codeAny_mono (F.run _ X.stack _ _ ⟨Value.ref (s.heap.objs.size + 1) :: us, []⟩ (Value.ref (s.heap.objs.size + 1) :: (us ++ [])) _ _ (E σ) (hr.make C us [])
    (J2.env0.make C us []) (by have b := hb _ (Value.ref (s.heap.objs.size + 1) :: us) J2.kIn (by simpa using hl); simpa using b) r2 w0) fun r s' w1 => ?_))
  cases r with
  | error e => exact hx pp _ _ e s' J2 w1
  | ok fl =>
    cases fl with
    | ret u =>
      obtain ⟨v, H', J3, rw0, ev, q9⟩ := J2.after w1
      subst ev
      exact ⟨rw0, ⟨V.ref (s.heap.objs.size + 1), H', J3, rfl, q9⟩⟩
    | next => exact w1.elim
    | brk => exact False.elim w1
    | cont => exact False.elim w1
theorem pe_makeS (M : Mk X.K C f) (F : FnOk X.prog X.w X.K X.mg X.base CX k f fd ps sp) (hr : Room (k + 1) X.A) (hg : Gl X x) (hm : X.mg x = some (.ref C)) (hb : Binds X.K fd ps []) (hx : ∀ σ, PassesAt CX X σ (E σ))
    (ha : PA X (e :: es) t) (hdb : (x == ("__debug__" : Str)) = false := by decide) (he : starEach (e :: es) X.env = (false, eval e X.env) :: starEach es X.env := by rfl) (hpl : (backTo pos (starEach es X.env)).any (·.1) = false := by rfl) :
    PE X (.Call (.Name x p) (e :: es) [] pos) (tMakeS C sp E t) := by
  refine ⟨fun pp s σ H Q I h => ?_⟩
  refine wpAny_Call_Name_kw (ld_glob I hg hm ?_ hdb)
  refine PySem.W.callWith_K (h₀ := X.base) I.ok.mod.kin M.kp (thn (ha.run pos pp s σ H _ I h) fun us s1 ⟨vs, Ha, Ia, r, q⟩ => ⟨Ia.kIn, ?_⟩) he hpl
  exact run_makeS M F hr hb (hx σ) Ia r q
/-- a suite that is read for one class of errors -/
theorem suite_by {st : List Stmt} {t : TS} {c0 cls : Value} {d : Option Addr} (h : cls = c0 → d = none → PSs X st t) : PSs X st (fun D σ H => cls = c0 ∧ d = none ∧ t D σ H) := ⟨fun pins s σ H D I ⟨e1, e2, q⟩ => (h e1 e2).run pins s σ H D I q⟩
end
end Ly

set_option maxHeartbeats 4000000
namespace Ly
open PySem L2 PySem.Spec PyProof.Rows
/-! ## a starred name in targets -/
section
variable {prog : Program} {w : World} {A : Around} {E : Value → Shared → Prop} {s : Shared}
theorem star_items {l : Addr} {items : Array Value} {n i : Nat} {Q : List Value → Shared → Prop} (hl : IsTup s.heap l items) (hnd : A.handled = none) (hi : i < n) (hn : n ≤ items.size + 1) (hz : items.size ≤ 16384)
    (h : ∀ (h' : Heap) (tk : Nat), (∀ b o, s.heap.get? b = some o → h'.get? b = some o) → Q (items.toList.take i ++ [.ref h'.objs.size] ++ (items.toList.drop i).drop (items.size + 1 - n)) { s with heap := h'.push { cls := .type "list", data := .seq ((items.toList.drop i).take (items.size + 1 - n)).toArray }, toks := tk }) : wpAny (model prog w) A (unpackItems (.ref l) n (some i)) Q E s := by
  have nel : l ≠ s.heap.objs.size := by
    obtain ⟨o, ho, _⟩ := hl
    exact Nat.ne_of_lt (Heap.lt_size ho)
  unfold unpackItems
  apply wpAny_bind
  unfold notIterableAtAll
  refine wpAny_bind (wpAny_specialOf hl.typeIs PySem.F.slot_tuple_iter.lookup ?_)
  refine wpAny_pure ?_
  rw [if_neg Bool.false_ne_true]
  apply wpAny_bind
  refine wpAny_holding (iter_tuple hl ?_)
  refine wpAny_bind (wpAny_holding (draw_tuple nel i 0 _ _ ⟨_, Heap.get?_push_size _ rfl, rfl, rfl⟩ (hl.push _) (by omega) fun ha ita sba => ?_))
  have tla : IsTup ha l items := (hl.push _).extBut sba.extBut nel
  rw [Nat.zero_add] at ita
  have itb := ita
  obtain ⟨oi, goi, _⟩ := itb
  have tlb := tla
  obtain ⟨ol, gol, _⟩ := tlb
  rw [List.drop_zero]
  have zf : (items.toList.take i).length = i := by rw [List.length_take, Array.length_toList]; omega
  rw [if_neg (show ¬ ((items.toList.take i).length < i) by rw [zf]; omega)]
  refine wpAny_bind (wpAny_holding (PySem.W.kun_collect (s := { s with heap := ha }) (T := "tuple_iterator") (.inr (.inr (.inr rfl))) (Walks.tuple (A := A.in1) hnd s.heap.objs.size l nel items) (fun j u st => st.1.typeIs) (k := i) (by omega) ⟨ita, tla⟩ (Heap.lt_size goi) (Heap.lt_size gol) (fun hb2 tk kk => ?_) (by rw [sizeLine_eq]; omega)))
  have zr : (items.toList.drop i).length = items.size - i := by rw [List.length_drop, Array.length_toList]
  have zm : (items.toList.drop i).length - (n - 1 - i) = items.size + 1 - n := by rw [zr]; omega
  change wpAny _ _ (if (items.toList.drop i).length < n - 1 - i then _ else _) _ _ _
  rw [if_neg (by rw [zr]; omega)]
  change wpAny _ _ (newList ((items.toList.drop i).take ((items.toList.drop i).length - (n - 1 - i))) >>= fun d => pure (items.toList.take i ++ [d] ++ (items.toList.drop i).drop ((items.toList.drop i).length - (n - 1 - i)))) _ _ _
  rw [zm]
  refine wpAny_bind (wpAny_newList (s := { s with heap := hb2, toks := tk }) (wpAny_pure (h hb2 tk fun b o e => ?_)) (by rw [List.length_take, zr, sizeLine_eq]; omega))
  have hb : b ≠ s.heap.objs.size := Nat.ne_of_lt (Heap.lt_size e)
  exact kk b o hb (sba.extBut b o hb (Heap.get?_push_of_some _ e))
end
section
variable {X : Cx} {pos : Pos}
theorem pgs_consS {e : Expr} {es : List Expr} {p : Pos} {t : TG} {u : TGs} (h1 : PG X e t) (h2 : PGs X es u)
    (hs : (assignEach (.Starred e p :: es) X.env).map (·.2) = assign e X.env :: (assignEach es X.env).map (·.2) := by rfl) : PGs X (.Starred e p :: es) (gCons t u) := by
  refine ⟨fun pp s σ H vs us Q I r h => ?_⟩
  obtain ⟨v, vr, e1, h⟩ := h
  subst e1
  cases r with
  | cons r rq =>
    rw [hs]
    refine assignInOrder_cons (thn (h1.run pp s σ H _ _ _ I r h) fun _ s1 ⟨σ1, H1, I1, qa⟩ => ?_)
    exact h2.run pp s1 σ1 H1 _ _ Q I1 rq qa
/-- (a, .., *b, ..) = a tuple: n targets, the starred one at i -/
def gTupS (K : PySem.W.Frag) (n i : Nat) (t : TGs) : TG := fun v σ H Q => ∃ a xs, v = .ref a ∧ SqT K H a xs ∧ n ≤ xs.length + 1 ∧ xs.length ≤ 16384 ∧
  ∀ p, H p = none → t (xs.take i ++ [.ref p] ++ (xs.drop i).drop (xs.length + 1 - n)) σ (upd H p (.lst ((xs.drop i).take (xs.length + 1 - n)))) Q
theorem pg_tupS {es : List Expr} {k : Nat} {t : TGs} {n i : Nat} (hc : X.calm = true) (h : PGs X es t)
    (hn : (assignEach es X.env).length = n := by rfl) (hst : (assignEach es X.env).findIdx? (·.1) = some i := by rfl) (hi : i < n := by decide) : PG X (.Tuple es k pos) (gTupS X.K n i t) := by
  refine ⟨fun pp s σ H v u Q I r hx0 => ?_⟩
  obtain ⟨a, xs, e1, hq, hl, hz, hx0⟩ := hx0
  subst e1
  cases r
  obtain ⟨its, rv, ht, _⟩ := I.tuple hq
  have el := rv.length
  rw [assign_Tuple]
  refine wpAny_bind (wpAny_standAt ?_)
  unfold unpack
  rw [hn, hst]
  refine wpAny_bind (wpAny_holding (star_items ht (I.ok.hd hc) hi (by rw [List.size_toArray]; omega) (by rw [List.size_toArray]; omega) fun h' tk hx => ?_))
  have I1 : Inv X pp σ H { s with heap := h', toks := tk } := I.kept (t' := tk) hx
  have rm : Vals ((xs.drop i).take (xs.length + 1 - n)) ((its.drop i).take (its.length + 1 - n)) := by
    rw [el]
    exact (rv.drop i).take _
  have I2 : Inv X pp σ (upd H h'.objs.size (.lst ((xs.drop i).take (xs.length + 1 - n)))) { s with heap := h'.push { cls := .type "list", data := .seq ((its.drop i).take (its.length + 1 - n)).toArray }, toks := tk } :=
    I1.lnew (t' := tk) rm (by rw [List.length_take, List.length_drop, sizeLine_eq]; omega)
  have f : H h'.objs.size = none := I1.fresh
  have q := h.run pp _ σ _ _ (its.take i ++ [Value.ref h'.objs.size] ++ (its.drop i).drop (its.length + 1 - n)) Q I2 (((rv.take i).append (.cons (show RelV (.ref h'.objs.size) (.ref h'.objs.size) from rfl) .nil)).append (by rw [el]; exact (rv.drop i).drop _)) (hx0 _ f)
  simpa using q
end
/-! ## min of a tuple of ints -/
theorem reads_ints {h : Heap} : ∀ {vs : List Value} {ns : List Int}, IntsAre vs ns → ReadsAll h vs (ns.map .int) []
  | _, _, .nil => .nil
  | _, _, .cons n t r => .cons (as := []) (bs := []) (.int ..) (reads_ints r)
section
variable {X : Cx}
def rMinT (K : PySem.W.Frag) : List V → Hp → VK → Prop := fun vs H Q => ∃ (a : Addr) (n : Int) (ns : List Int), vs = [V.ref a] ∧ SqT K H a ((n :: ns).map V.int) ∧ Q (.int (ns.foldl min n)) H
theorem cr_minT (hc : X.calm = true) (hu : X.A.units + 64 < cLine) : CallR X (.builtin "min") (rMinT X.K) := by
  intro pp s σ H vs us Q I r h
  obtain ⟨a, n, ns, rfl, hs, q⟩ := h
  obtain ⟨kts, rv, hl, _⟩ := I.tuple hs
  rw [Vals.ref1 r]
  have al : ∀ ms : List Int, PySem.W.AlikeAll (ms.map .int) := fun ms => ⟨fun x hx y hy => by
    obtain ⟨i, _, rfl⟩ := List.mem_map.mp hx
    obtain ⟨j, _, rfl⟩ := List.mem_map.mp hy
    rfl, fun x hx => by
    obtain ⟨i, _, rfl⟩ := List.mem_map.mp hx
    exact fun e => nomatch e⟩
  refine PySem.W.min_tuple_data (I.ok.hd hc) hl (reads_ints (rv.ints)) (al (n :: ns)) ?_ fun i v h' tk bs _ rd hk => ?_
  · have e := PyProof.Rows.depthAll_ints (n :: ns)
    rw [List.map_cons] at e
    rw [e]
    omega
  · rw [PySem.W.minD_ints] at rd
    cases rd
    exact ⟨.int _, H, I.kept hk, ⟨_, rfl⟩, q⟩
end
/-! ## list + list -/
section
variable {X : Cx}
def rCatL (K : PySem.W.Frag) : R2 := fun x y H Q => ∃ l b xs zs, x = .ref l ∧ y = .ref b ∧ SqL K H l xs ∧ SqL K H b zs ∧ xs.length + zs.length ≤ sizeLine ∧ ∀ p, H p = none → Q (.ref p) (upd H p (.lst (xs ++ zs)))
theorem op_catL : OpR X (binaryOp .Add) (rCatL X.K) := by
  intro pp s σ H x y v u Q I ra rb h
  obtain ⟨l, b, xs, zs, rfl, rfl, hH, hB, zz, q⟩ := h
  cases ra
  cases rb
  obtain ⟨kts, r, pl, z⟩ := I.list hH
  obtain ⟨jts, r2, pl2, z2⟩ := I.list hB
  have e1 := r.length
  have e2 := r2.length
  obtain ⟨⟨cls, dd, data, sl⟩, n, ho, hc, _, hd⟩ := pl
  obtain ⟨⟨cls2, dd2, data2, sl2⟩, n2, ho2, hc2, _, hd2⟩ := pl2
  simp only at hc hd hc2 hd2
  subst hc hd hc2 hd2
  have ea : kts.toArray ++ jts.toArray = (kts ++ jts).toArray := by simp
  refine concat_meets ⟨_, ho, rfl⟩ ⟨_, ho2, rfl⟩ noFill_list_add seq_list_add PySem.F.slot_list_add PySem.F.entry_list_add (PySem.F.args_list_add_2 _ _) (list_addW l b kts.toArray jts.toArray n n2 dd dd2 sl sl2 (by simp; omega)) ⟨ho, ho2, ?_⟩
  rw [ea]
  exact ⟨.ref _, _, I.lnew (t' := s.toks) (r.append r2) (by rw [List.length_append]; omega), rfl, q _ I.fresh⟩
end

/-! ## by data -/
section
variable {W : Wd} {K : PySem.W.Frag} {Γ : List (Option Dat)} {ta tb tc te tl tv : TE} {tt tu : TT} {tA : TA} {P R : Dat → Prop} {d a b : Dat} {G1 G0 H0 G H G2 H2 : Hp} {O : List (Addr × List Dat)} {σ : L2.St} {D : Ends} {tz ts tw : TS}
theorem v_minT {n : Int} {ns : List Int} (h : EvX W K ta Γ (.tup ((n :: ns).map Dat.int))) : EvX W K (tCB (rMinT K) (tCons ta tNil)) Γ (.int (ns.foldl min n)) := v_cbx (a_consx h a_nil) fun G H xs k r Q q => by
  cases r with
  | cons r rr =>
    cases rr
    obtain ⟨a, ys, rfl, hs, rs⟩ := r.tup_inv
    have e := rs.ints
    subst e
    exact ⟨a, n, ns, rfl, ex_t k.ex hs, q.here k (.int _) rfl⟩
theorem n_catL {xs ys : List Dat} (ha : EvX W K ta Γ (.lst xs)) (hb : EvX W K tb Γ (.lst ys)) (hz : xs.length + ys.length ≤ 100000) : EvN W K (tOp (rCatL K) ta tb) Γ (· = xs ++ ys) := fun σ G H n k Q q =>
  ha σ G H n k _ fun x dx G2 H2 s px rx => hb σ G2 H2 (n.mono s.gg) (s.ok k) _ fun y dy G3 H3 t py ry => by
    subst px py
    obtain ⟨a, us, rfl, ha, ra⟩ := rx.lst_inv
    obtain ⟨b, vs, rfl, hb, rb⟩ := ry.lst_inv
    have k3 := t.ok (s.ok k)
    refine ⟨a, b, us, vs, rfl, rfl, ex_l (t.gg.trans k3.ex) ha, ex_l k3.ex hb, by rw [ra.length, rb.length]; exact sz_of hz, fun p hp => ?_⟩
    have st := s.trans t
    have k4 : Stp W G3 H3 G3 (upd H3 p (.lst (us ++ vs))) := Stp.grow k3 (Ex.new hp)
    refine q p _ _ G3 _ (st.trans k4) ((back st hp).1) ((back (Stp.refl k3) hp).2) upd_same ((ra.mono t.gg).append rb) rfl
/-- xs[i] = e, xs the own list -/
theorem g_put {l : Addr} {ds : List Dat} {m : Int} (h : Ev W K te Γ P) (ho : EvX W K ta Γ (.adr l)) (hi : Ev W K tb Γ (Drawn m)) (hl : (ds.length : Int) = m) (S : S4 W K G1 G0 H0 Γ ((l, ds) :: O) σ G H)
    (k : ∀ (j : Nat) d G2 H2, j < ds.length → P d → S4 W K G1 G0 H0 Γ ((l, ds.set j d) :: O) σ G2 H2 → D.nx σ H2) : tAsg te (gSub ta tb rSetL) D σ H := h σ G H S.env S.ok _ fun v d G2 H2 s p r => by
  have S2 := S.step s
  refine ho σ G2 H2 S2.env S2.ok _ fun x e G3 H3 s3 ee r3 => ?_
  subst ee
  cases r3
  have S3 := S2.step s3
  refine hi σ G3 H3 S3.env S3.ok _ fun y e G4 H4 s4 ⟨j, ej, j0, j1⟩ r4 => ?_
  subst ej
  cases r4
  have S4' := S3.step s4
  obtain ⟨xs, h1, h2⟩ := (S4'.own l ds List.mem_cons_self).at'
  have hlen := h2.length
  refine ⟨l, xs, j, j.toNat, rfl, rfl, h1, ?_, ?_⟩
  · unfold ixN
    rw [if_pos j0, if_pos (by omega)]
  · exact k j.toNat d G4 _ (by omega) p (S4'.put (h2.set ((r.mono s3.gg).mono s4.gg) j.toNat))
theorem q_put {l : Addr} {ds : List Dat} {m : Int} (h : Ev W K te Γ P) (ho : EvX W K ta Γ (.adr l)) (hi : Ev W K tb Γ (Drawn m)) (hl : (ds.length : Int) = m) (S : S4 W K G1 G0 H0 Γ ((l, ds) :: O) σ G H)
    (k : ∀ (j : Nat) d G2 H2, j < ds.length → P d → S4 W K G1 G0 H0 Γ ((l, ds.set j d) :: O) σ G2 H2 → tz D σ H2) : tSeq (tAsg te (gSub ta tb rSetL)) tz D σ H := g_put (D := { D with nx := tz D }) h ho hi hl S k
/-- the first own list is forgotten -/
theorem S4.drop {x : Addr × List Dat} (S : S4 W K G1 G0 H0 Γ (x :: O) σ G H) : S4 W K G1 G0 H0 Γ O σ G H := ⟨S.env, S.ok, S.stp, fun l ds hm => S.own l ds (List.mem_cons_of_mem _ hm), by
  have := S.nd
  rw [List.map_cons, List.nodup_cons] at this
  exact this.2, S.fr⟩
/-- a, b, *c = t -/
theorem g_tupS2 {i j l : Nat} {x y : Dat} {ds : List Dat} (h : EvX W K te Γ (.tup (x :: y :: ds))) (hz : ds.length ≤ 1000) (S : S4 W K G1 G0 H0 Γ O σ G H) (k : ∀ σ2 G2 H2, S4 W K G1 G0 H0 (((Γ.set i (some x)).set j (some y)).set l (some (.lst ds))) O σ2 G2 H2 → D.nx σ2 H2) :
    tAsg te (gTupS K 3 2 (gCons (gName i) (gCons (gName j) (gCons (gName l) gNil)))) D σ H := h σ G H S.env S.ok _ fun v e G2 H2 s ee r => by
  subst ee
  have S2 := S.step s
  obtain ⟨a, xs, rfl, hs, rs⟩ := r.tup_inv
  cases rs with
  | @cons vx xs' _ _ rx rs =>
    cases rs with
    | @cons vy zs _ _ ry rs =>
      have hl := rs.length
      refine ⟨a, _, rfl, ex_t S2.ok.ex hs, by simp, by simp; omega, fun p hp => ?_⟩
      have e1 : (vx :: vy :: zs).length + 1 - 3 = zs.length := by simp
      rw [e1]
      have e2 : List.take zs.length (List.drop 2 (vx :: vy :: zs)) = zs := by simp
      have e3 : List.drop zs.length (List.drop 2 (vx :: vy :: zs)) = [] := by simp
      rw [e2, e3]
      have st := Stp.new S2.ok (o := .lst zs) hp
      have S3 := S2.step st
      have rl : Rep K (upd G2 p (.lst zs)) (.ref p) (.lst ds) := .lst (l_of upd_same) (rs.mono st.gg)
      refine ⟨vx, [vy, .ref p], rfl, vy, [.ref p], rfl, .ref p, [], rfl, rfl, ?_⟩
      exact k _ _ _ (((S3.set (rx.mono st.gg)).set (ry.mono st.gg)).set rl)
theorem q_tupS2 {i j l : Nat} {x y : Dat} {ds : List Dat} (h : EvX W K te Γ (.tup (x :: y :: ds))) (hz : ds.length ≤ 1000) (S : S4 W K G1 G0 H0 Γ O σ G H) (k : ∀ σ2 G2 H2, S4 W K G1 G0 H0 (((Γ.set i (some x)).set j (some y)).set l (some (.lst ds))) O σ2 G2 H2 → tz D σ2 H2) :
    tSeq (tAsg te (gTupS K 3 2 (gCons (gName i) (gCons (gName j) (gCons (gName l) gNil))))) tz D σ H := g_tupS2 (D := { D with nx := tz D }) h hz S k
/-- try: y = C(..) except CE as e: a suite, for an __init__ that may raise CE -/
theorem g_tryMake {C CE : Addr} {A : InitSig} {i j : Nat} {tsu : Addr → Value → Option Addr → TS} {Wout : WX} {ds : List Dat} {r : Option (List (Str × Dat))} (h : EvAX W K tA Γ ds) (ha : A ds r) (hx : PySem.W.exmOne K (.ref CE) (.ref CE) = some true) (S : S4 W K G1 G0 H0 Γ O σ G H)
    (k1 : r = none → ∀ (a : Addr) (H2 : Hp), tsu a (.ref CE) none { nx := fun σ' H' => D.nx (σ'.set i none) H', rt := D.rt, bk := fun σ' H' => D.bk (σ'.set i none) H', ct := fun σ' H' => D.ct (σ'.set i none) H' } (σ.set i (some (.ref a))) H2)
    (k2 : ∀ fsd, r = some fsd → ∀ σ2 G2 H2, S4 W K G1 G0 H0 (Γ.set j (some (.obj C fsd))) O σ2 G2 H2 → D.nx σ2 H2) :
    tAsg (tMakeS C (spInit K C CE A) (WE (wAs K (.ref CE) i tsu Wout D)) tA) (gName j) D σ H := h σ G H S.env S.ok _ fun vs ds' G2 H2 s e rr => by
  subst e
  have S2 := S.step s
  refine make_run (C := C) (CE := CE) (Q := fun x H1 => gName j x σ H1 D.nx) (E := WE (wAs K (.ref CE) i tsu Wout D) σ) S2.ok rr ha (fun e H3 => ⟨true, hx, fun _ a _ => k1 e a H3, fun z => Bool.noConfusion z⟩) fun fsd e v d G3 H3 s3 p r3 => ?_
  subst p
  exact k2 fsd e _ G3 H3 ((S2.step s3).set r3)
end
end Ly

set_option maxHeartbeats 4000000
namespace Ly
open PySem L2 PySem.Spec PyProof.Rows
/-! ## classes of the text -/
/-- a class that may be made by its name, and may raise; sp: its __init__ -/
structure MakS (P : Program) (w : World) (K : PySem.W.Frag) (mg : Str → Option Value) (base : Heap) (k : Nat) (x : Str) (C : Addr) (sp : Sp) : Prop where
  ex : ∃ (f : Addr) (fd : FuncData) (ps : List Str), Mk K C f ∧ FnOk P w K mg base (L2.CX P w) k f fd ps sp ∧ mg x = some (.ref C) ∧ Binds K fd ps []
section
variable {P : Program} {w : World} {K : PySem.W.Frag} {mg : Str → Option Value} {base : Heap}
theorem maks_of {x qual : Str} {C : Addr} {st : Stmt} {N ps : List Str} {k : Nat} {sp : Sp} (M : ∃ f fd, Mk K C f ∧ Fun K "__init__" qual st f fd) (hm : mg x = some (.ref C))
    (hb : ∀ (kV doc pm : Value) (an : Option Addr) (cdv ct : Value) (us : List Value), us.length = ps.length → bindArgs (PySem.W.fnOf "__init__" qual (defArgs st) (defBody st) (defScope st) .none kV doc pm an cdv ct) ⟨us, []⟩ = pure (ps.zip us))
    (S : FnScope N ps (defScope st)) (len : ∀ vs H Q E, sp vs H Q E → vs.length = ps.length)
    (hbody : ∀ (f : Addr) (cdv : Value) (A : Around) (outer : List PySem.Env) (s : Shared) (H : Hp) (vs : List V) (Q : VK) (E : XK), Room k (A.deeper (envOfC qual (defScope st) s.heap.objs.size f cdv)) → sp vs H Q E →
      ∃ t, PSs (cxOf (L2.CX P w) P w K mg base N qual (defScope st) f cdv A outer s H E) (defBody st) t ∧ t { nx := fun _ H' => Q .non H', rt := Q } (L2.start N vs) H) : MakS P w K mg base (k + 1) x C sp := by
  obtain ⟨f, fd, m, F⟩ := M
  exact ⟨⟨f, fd, ps, m, F.okX S len (hbody f), hm, F.binds hb⟩⟩
theorem met_of {m qual : Str} {C : Addr} {st : Stmt} {N ps : List Str} {k : Nat} {sp : Sp} (c : Cls K C) (M : ∃ f fd, Meth K C m f ∧ Fun K m qual st f fd)
    (hb : ∀ (kV doc pm : Value) (an : Option Addr) (cdv ct : Value) (us : List Value), us.length = ps.length → bindArgs (PySem.W.fnOf m qual (defArgs st) (defBody st) (defScope st) .none kV doc pm an cdv ct) ⟨us, []⟩ = pure (ps.zip us))
    (S : FnScope N ps (defScope st)) (len : ∀ vs H Q E, sp vs H Q E → vs.length = ps.length)
    (hbody : ∀ (f : Addr) (cdv : Value) (A : Around) (outer : List PySem.Env) (s : Shared) (H : Hp) (vs : List V) (Q : VK) (E : XK), Room k (A.deeper (envOfC qual (defScope st) s.heap.objs.size f cdv)) → sp vs H Q E →
      ∃ t, PSs (cxOf CX0 P w K mg base N qual (defScope st) f cdv A outer s H E).nox (defBody st) t ∧ t { nx := fun _ H' => Q .non H', rt := Q } (L2.start N vs) H) : C8.Met P w K mg base (k + 1) C m sp [] := by
  obtain ⟨f, fd, me, F⟩ := M
  exact ⟨⟨f, fd, ps, [], c, me, F.ok S len (hbody f), F.binds hb, .nil⟩⟩
/-- an own == -/
structure EqS (P : Program) (w : World) (K : PySem.W.Frag) (mg : Str → Option Value) (base : Heap) (k : Nat) (C : Addr) (sp : Sp) : Prop where
  ex : ∃ (f : Addr) (fd : FuncData) (ps : List Str), ClsQ K C f ∧ FnOk P w K mg base CX0 k f fd ps sp ∧ Binds K fd ps []
theorem eqs_of {qual : Str} {C : Addr} {st : Stmt} {N ps : List Str} {k : Nat} {sp : Sp} (M : ∃ f fd, ClsQ K C f ∧ Fun K "__eq__" qual st f fd)
    (hb : ∀ (kV doc pm : Value) (an : Option Addr) (cdv ct : Value) (us : List Value), us.length = ps.length → bindArgs (PySem.W.fnOf "__eq__" qual (defArgs st) (defBody st) (defScope st) .none kV doc pm an cdv ct) ⟨us, []⟩ = pure (ps.zip us))
    (S : FnScope N ps (defScope st)) (len : ∀ vs H Q E, sp vs H Q E → vs.length = ps.length)
    (hbody : ∀ (f : Addr) (cdv : Value) (A : Around) (outer : List PySem.Env) (s : Shared) (H : Hp) (vs : List V) (Q : VK) (E : XK), Room k (A.deeper (envOfC qual (defScope st) s.heap.objs.size f cdv)) → sp vs H Q E →
      ∃ t, PSs (cxOf CX0 P w K mg base N qual (defScope st) f cdv A outer s H E).nox (defBody st) t ∧ t { nx := fun _ H' => Q .non H', rt := Q } (L2.start N vs) H) : EqS P w K mg base (k + 1) C sp := by
  obtain ⟨f, fd, q, F⟩ := M
  exact ⟨⟨f, fd, ps, q, F.ok S len (hbody f), F.binds hb⟩⟩
end
section
variable {X : Cx} {k j : Nat} {C : Addr} {x m : Str} {sp : Sp} {p pos : Pos} {e : Expr} {es : List Expr} {t : TA}
theorem pe_mkS {E : L2.St → XK} (c : MakS X.prog X.w X.K X.mg X.base k x C sp) (hr : Room j X.A) (hk : k + 1 ≤ j) (hx : ∀ σ, PassesAt (L2.CX X.prog X.w) X σ (E σ)) (hg : Gl X x) (ha : PA X (e :: es) t)
    (hdb : (x == ("__debug__" : Str)) = false := by decide) (he : starEach (e :: es) X.env = (false, eval e X.env) :: starEach es X.env := by rfl) (hpl : (backTo pos (starEach es X.env)).any (·.1) = false := by rfl) :
    PE X (.Call (.Name x p) (e :: es) [] pos) (tMakeS C sp E t) := by
  obtain ⟨f, fd, ps, M, F, hm, b⟩ := c.ex
  exact pe_makeS M F (hr.mono hk) hg hm b hx ha hdb he hpl
theorem pe_mkX (c : MakS X.prog X.w X.K X.mg X.base k x C sp) (hr : Room j X.A) (hk : k + 1 ≤ j) (hg : Gl X x) (ha : PA X (e :: es) t)
    (hdb : (x == ("__debug__" : Str)) = false := by decide) (he : starEach (e :: es) X.env = (false, eval e X.env) :: starEach es X.env := by rfl) (hpl : (backTo pos (starEach es X.env)).any (·.1) = false := by rfl) :
    PE X (.Call (.Name x p) (e :: es) [] pos) (tMake C sp [] E0 t) := by
  obtain ⟨f, fd, ps, M, F, hm, b⟩ := c.ex
  exact pe_make M F (hr.mono hk) hg hm b .nil passL ha hdb he hpl
theorem op_eqS (c : EqS X.prog X.w X.K X.mg X.base k C sp) (hr : Room j X.A) (hk : k ≤ j) : OpR X (compareOp .Eq) (rEqOwn C sp false) := by
  obtain ⟨f, fd, ps, q, F, b⟩ := c.ex
  exact op_eqOwn F q b (hr.mono hk)
theorem op_neS (c : EqS X.prog X.w X.K X.mg X.base k C sp) (hr : Room j X.A) (hk : k + 1 ≤ j) : OpR X (compareOp .NotEq) (rEqOwn C sp true) := by
  obtain ⟨f, fd, ps, q, F, b⟩ := c.ex
  exact op_neOwn F q b (hr.mono hk)
end
/-- an own class of errors, without an __init__ of its own -/
structure ErrP (K : PySem.W.Frag) (mg : Str → Option Value) (x : Str) (C : Addr) : Prop where
  gl : mg x = some (.ref C)
  kp : PySem.W.keepIn K (.ref C) = true
  ex : PySem.W.excIn K C [.type "ValueError", .type "Exception", .type "BaseException", .type "object"] "ValueError.__new__" = true
  sub : PySem.W.subIn K (.ref C) (.type "BaseException") = some true
  ty : PySem.W.typeIn K (.ref C) = some (.type "type")
  hd : PySem.W.hasDictIn K C = true
  self : PySem.W.subIn K (.ref C) (.ref C) = some true
  is : ExcC K C
theorem ErrP.exm {K : PySem.W.Frag} {mg : Str → Option Value} {x : Str} {C : Addr} (e : ErrP K mg x C) : PySem.W.exmOne K (.ref C) (.ref C) = some true := PySem.W.exm_ref e.sub e.hd e.ty e.self
theorem ps_raiseE {X : Cx} {W : WX} {C : Addr} {x m : Str} {j : Nat} {p p2 pos pos2 : Pos} (hc : X.calm = true) (tk : Takes X W) (e : ErrP X.K X.mg x C) (hg : Gl X x) (hdb : (x == ("__debug__" : Str)) = false := by decide) :
    PS X (.Raise (some (.Call (.Name x p) [.Constant (.str m) j p2] [] pos)) none pos2) (fun _ σ H => W (.ref C) none σ H) :=
  ps_raise hc tk (pmk_own PySem.F.excBase_ValueError e.ex e.gl e.kp (raises_own e.sub e.ty) hg hdb)
end Ly
namespace Ly
open PySem L2 PySem.Spec PyProof.Rows
/-- isinstance(e, c) of a caught exception: its class told by the rule -/
def rIsE2 (K : PySem.W.Frag) (D a : Addr) (cls : Value) (d : Option Addr) : List V → Hp → VK → Prop := fun xs H Q => cls = .ref D ∧ d = none ∧ rIsE K D a xs H Q
theorem call_isE2 {X : Cx} {a D : Addr} {oe : Obj} {pn : List (Addr × Obj)} {cls : Value} {d : Option Addr} (C : ExcC X.K D) (hz : Zc cls d oe) (hf : ∃ vs, oe.data = .fields vs) : CallR (X.suite a ((a, oe) :: pn)) (.builtin "isinstance") (rIsE2 X.K D a cls d) := by
  intro pins s σ H xs us Q I r ⟨e1, e2, h⟩
  subst e1 e2
  exact call_isE C hz hf pins s σ H xs us Q I r h
section
variable {W : Wd} {K : PySem.W.Frag} {Γ : List (Option Dat)} {ta tb tc te : TE} {D a c : Addr} {b : Bool} {σ : L2.St} {H : Hp} {Q : VK} {i : Nat}
theorem isE_run (hk : PySem.W.kitOne K (.ref D) (.ref c) = some b) (hs : σ[i]? = some (some (.ref a))) (q : Q (.bl b) H) : tCB (rIsE2 K D a (.ref D) none) (tCons (tVar i) (tCons (tC (.ref c)) tNil)) σ H Q :=
  ⟨.ref a, hs, rfl, rfl, .ref c, .ref c, b, rfl, fun u r => r, hk, q⟩
end
end Ly
namespace Ly
open PySem L2 PySem.Spec PyProof.Rows
section
variable {W : Wd} {K : PySem.W.Frag} {Γ : List (Option Dat)} {ta tb tc te tl tn : TE} {tt : TT}
/-- [f(x) for x in us] -/
theorem n_lcM {α : Type} {j : Nat} {us : List α} {f g : α → Dat} (h : EvX W K tl Γ (.lst (us.map f))) (hl : us.length < 100000) (he : ∀ x, x ∈ us → EvX W K te ((wipeG Γ [j]).set j (some (f x))) (g x)) :
    EvN W K (tLc (iList K tl) (gName j) tYes te [j]) Γ (· = us.map g) :=
  n_lcL (fun i ds => ds = (us.take i).map g) h rfl (fun i d hd => by
    rw [List.getElem?_map] at hd
    cases e : us[i]? with
    | none =>
      rw [e] at hd
      cases hd
    | some x =>
      rw [e] at hd
      have ed : f x = d := Option.some.inj hd
      subst ed
      refine tn_each (fun ds e => by rw [e, List.length_map, List.length_take]; omega) fun ds e2 => (he x (List.mem_of_getElem? e)).imp fun d ed => ?_
      rw [e2, ed, List.take_succ, e]
      simp) fun ds e => by
    rw [List.length_map, List.take_length] at e
    exact e
/-- [x for x in ns if p(x)] -/
theorem n_lcF {j : Nat} {ns : List Int} {p : Int → Bool} (h : EvX W K tl Γ (.lst (dI ns))) (hl : ns.length < 100000) (ht : ∀ x, EvBX W K tt ((wipeG Γ [j]).set j (some (.int x))) (p x)) (he : ∀ x, EvX W K te ((wipeG Γ [j]).set j (some (.int x))) (.int x)) :
    EvN W K (tLc (iList K tl) (gName j) tt te [j]) Γ (· = dI (ns.filter p)) :=
  n_lcL (fun i ds => ds = dI ((ns.take i).filter p)) h rfl (fun i d hd => by
    rw [List.getElem?_map] at hd
    cases e : ns[i]? with
    | none =>
      rw [e] at hd
      cases hd
    | some x =>
      rw [e] at hd
      have ed : Dat.int x = d := Option.some.inj hd
      subst ed
      intro ds e2
      refine ⟨by
        rw [e2, List.length_map]
        have := (List.filter_sublist (p := p) (l := ns.take i)).length_le
        rw [List.length_take] at this
        omega, _, ht x, fun e3 => (he x).imp fun d ed => ?_, fun e3 => ?_⟩
      · rw [e2, ed, List.take_succ, e]
        simp [List.filter_append, ← e3]
      · rw [e2, List.take_succ, e]
        simp [List.filter_append, ← e3]) fun ds e => by
    rw [List.length_map, List.take_length] at e
    exact e
end
end Ly
namespace Ly
open PySem L2 PySem.Spec PyProof.Rows
section
variable {W : Wd} {K : PySem.W.Frag} {Γ : List (Option Dat)} {te : TE}
theorem EvN.imp {P R : List Dat → Prop} (h : EvN W K te Γ P) (i : ∀ ds, P ds → R ds) : EvN W K te Γ R := fun σ G H n k Q q => h σ G H n k Q fun p xs ds G2 H2 s a b c r e => q p xs ds G2 H2 s a b c r (i ds e)
end
end Ly

set_option maxHeartbeats 4000000
namespace Ly
open PySem L2 PySem.Spec PyProof.Rows
section
variable {W : Wd} {K : PySem.W.Frag} {Γ : List (Option Dat)} {ta tb tc te tl tv : TE} {tt tu : TT} {tA : TA} {P R S : Dat → Prop} {d a b : Dat} {G1 G0 H0 G H G2 H2 : Hp} {O : List (Addr × List Dat)} {σ : L2.St} {D : Ends} {tz ts tw : TS}
/-- an own list is known for a while; behind it, it is the body's own again -/
theorem S4.peek {l : Addr} {ds : List Dat} {i : Nat} (hi : Γ[i]? = some (some (.adr l))) (hn : NLs ds) (S : S4 W K G1 G0 H0 Γ ((l, ds) :: O) σ G H) : ∃ Gk, S4 W K Gk G0 H0 (Γ.set i (some (.lst ds))) O σ Gk H ∧
    ∀ {Γ' : List (Option Dat)} {O' : List (Addr × List Dat)} {σ' : L2.St} {G' H' : Hp}, S4 W K Gk G0 H0 Γ' O' σ' G' H' → σ'[i]? = σ[i]? → NLG i 0 Γ' → (∀ k es, (k, es) ∈ O' → NLs es) → ∃ G'', S4 W K G1 G0 H0 (Γ'.set i (some (.adr l))) ((l, ds) :: O') σ' G'' H' := by
  obtain ⟨t, e1, G2, S2, xs, h1, h2⟩ := S.keepT hi
  exact ⟨G2, S2.here, fun {Γ' O' σ' G' H'} S' es hΓ hO => ⟨del G' l, S4.thaw t (es.trans e1) ⟨xs, S'.fr _ _ h1, h2.mono S'.fr⟩ (S'.base S2.fr) hn hΓ.of hO⟩⟩
/-- with the slots told -/
theorem g_setS {i : Nat} (h : Ev W K te Γ P) (S : S4 W K G1 G0 H0 Γ O σ G H) (k : ∀ v d G2 H2, P d → S4 W K G1 G0 H0 (Γ.set i (some d)) O (σ.set i (some v)) G2 H2 → D.nx (σ.set i (some v)) H2) : tAsg te (gName i) D σ H :=
  h σ G H S.env S.ok _ fun v d G2 H2 s p r => k v d G2 H2 p ((S.step s).set r)
theorem q_setS {i : Nat} (h : Ev W K te Γ P) (S : S4 W K G1 G0 H0 Γ O σ G H) (k : ∀ v d G2 H2, P d → S4 W K G1 G0 H0 (Γ.set i (some d)) O (σ.set i (some v)) G2 H2 → tz D (σ.set i (some v)) H2) : tSeq (tAsg te (gName i)) tz D σ H := g_setS (D := { D with nx := tz D }) h S k
theorem q_setNS {i : Nat} {P : List Dat → Prop} (h : EvN W K te Γ P) (S : S4 W K G1 G0 H0 Γ O σ G H) (k : ∀ l ds G2 H2, P ds → S4 W K G1 G0 H0 (Γ.set i (some (.adr l))) ((l, ds) :: O) (σ.set i (some (.ref l))) G2 H2 → tz D (σ.set i (some (.ref l))) H2) : tSeq (tAsg te (gName i)) tz D σ H :=
  h σ G H S.env S.ok _ fun p xs ds G2 H2 s h0 g2 h2 r pd => by
    have S2 := (S.step s).set (i := i) (Rep.adr p)
    refine k p ds G2 H2 pd ⟨S2.env, S2.ok, S2.stp, fun l es hm => ?_, ?_, S2.fr⟩
    · rcases List.mem_cons.mp hm with e | hm
      · cases e
        refine ⟨g2, ?_, fun hmm => ?_, xs, h2, r⟩
        · exact (back S.stp h0).1
        · obtain ⟨z, hz⟩ := W.tr S.ok.inv hmm
          rw [hz] at h0
          cases h0
      · exact S2.own l es hm
    · rw [List.map_cons, List.nodup_cons]
      refine ⟨fun hm => ?_, S.nd⟩
      obtain ⟨⟨l, es⟩, h1, e⟩ := List.mem_map.mp hm
      have e : l = p := e
      subst e
      obtain ⟨ys, hy, _⟩ := (S.own _ _ h1).at'
      rw [hy] at h0
      cases h0
/-- a, b = t, t told by what it is -/
theorem q_tupP {js : List Nat} {n : Nat} {R : List Dat → Prop} (h : Ev W K te Γ fun d => ∃ ds, d = .tup ds ∧ ds.length = n ∧ R ds) (hj : js.length = n) (S : S4 W K G1 G0 H0 Γ O σ G H) (k : ∀ ds σ2 G2 H2, R ds → S4 W K G1 G0 H0 (setsG Γ js ds) O σ2 G2 H2 → tz D σ2 H2) : tSeq (tAsg te (gTup K n (gNames js))) tz D σ H :=
  h σ G H S.env S.ok _ fun v d G2 H2 s ⟨ds, e, hn, hr⟩ r => by
    subst e
    obtain ⟨a, xs, rfl, hs, r⟩ := r.tup_inv
    have S2 := S.step s
    exact ⟨a, xs, rfl, ex_t S2.ok.ex hs, by rw [r.length]; exact hn, gNames_run (js := js) r (hj.trans hn.symm) S2 fun σ2 S3 => k ds σ2 G2 H2 hr S3⟩
/-- an item of a list at a drawn place, the list told by what its items are -/
theorem v_pickP {m : Int} (ha : Ev W K ta Γ fun d => ∃ ds, d = .lst ds ∧ (ds.length : Int) = m ∧ ∀ x ∈ ds, S x) (hb : Ev W K tb Γ (Drawn m)) : Ev W K (tOp (rIxL K) ta tb) Γ S := v_op ha hb fun x y ⟨ds, ex, hl, hs⟩ ⟨v, ey, h0, h1⟩ => by
  subst ex ey
  have hlt : v.toNat < ds.length := by omega
  have hx : ds[v.toNat]? = some ds[v.toNat] := List.getElem?_eq_getElem hlt
  have e : v = ((v.toNat : Nat) : Int) := by omega
  rw [e]
  intro G H x y k rx ry Q q
  exact rv_ixL hx G H x y k rx ry Q fun v d G2 H2 s p r => q v d G2 H2 s (by rw [p]; exact hs _ (List.getElem_mem hlt)) r
abbrev rMin2 : List V → Hp → VK → Prop := fun xs H Q => ∃ i j, xs = [.int i, .int j] ∧ Q (.int (if j < i then j else i)) H
theorem v_min2 {i j : Int} (ha : EvX W K ta Γ (.int i)) (hb : EvX W K tb Γ (.int j)) : EvX W K (tCB rMin2 (tCons ta (tCons tb tNil))) Γ (.int (if j < i then j else i)) := v_cbx (a_consx ha (a_consx hb a_nil)) fun G H xs k r Q q => by
  cases r with
  | cons r1 r =>
    cases r with
    | cons r2 r =>
      cases r
      cases r1
      cases r2
      exact ⟨i, j, rfl, q.here k (.int _) rfl⟩
/-- try: y = C(..) except CE as e: a suite; the slots told -/
theorem g_tryMakeS {C CE : Addr} {A : InitSig} {i j : Nat} {tsu : Addr → Value → Option Addr → TS} {Wout : WX} {ds : List Dat} {r : Option (List (Str × Dat))} (h : EvAX W K tA Γ ds) (ha : A ds r) (hx : PySem.W.exmOne K (.ref CE) (.ref CE) = some true) (S : S4 W K G1 G0 H0 Γ O σ G H)
    (k1 : r = none → ∀ (a : Addr) (H2 : Hp), tsu a (.ref CE) none { nx := fun σ' H' => D.nx (σ'.set i none) H', rt := D.rt, bk := fun σ' H' => D.bk (σ'.set i none) H', ct := fun σ' H' => D.ct (σ'.set i none) H' } (σ.set i (some (.ref a))) H2)
    (k2 : ∀ fsd, r = some fsd → ∀ v G2 H2, S4 W K G1 G0 H0 (Γ.set j (some (.obj C fsd))) O (σ.set j (some v)) G2 H2 → D.nx (σ.set j (some v)) H2) :
    tAsg (tMakeS C (spInit K C CE A) (WE (wAs K (.ref CE) i tsu Wout D)) tA) (gName j) D σ H := h σ G H S.env S.ok _ fun vs ds' G2 H2 s e rr => by
  subst e
  have S2 := S.step s
  refine make_run (C := C) (CE := CE) (Q := fun x H1 => gName j x σ H1 D.nx) (E := WE (wAs K (.ref CE) i tsu Wout D) σ) S2.ok rr ha (fun e H3 => ⟨true, hx, fun _ a _ => k1 e a H3, fun z => Bool.noConfusion z⟩) fun fsd e v d G3 H3 s3 p r3 => ?_
  subst p
  exact k2 fsd e v G3 H3 ((S2.step s3).set r3)
theorem q_tryMakeS {C CE : Addr} {A : InitSig} {i j : Nat} {tsu : Addr → Value → Option Addr → TS} {Wout : WX} {ds : List Dat} {r : Option (List (Str × Dat))} (h : EvAX W K tA Γ ds) (ha : A ds r) (hx : PySem.W.exmOne K (.ref CE) (.ref CE) = some true) (S : S4 W K G1 G0 H0 Γ O σ G H)
    (k1 : r = none → ∀ (a : Addr) (H2 : Hp) (D' : Ends), D'.rt = D.rt → tsu a (.ref CE) none D' (σ.set i (some (.ref a))) H2)
    (k2 : ∀ fsd, r = some fsd → ∀ v G2 H2, S4 W K G1 G0 H0 (Γ.set j (some (.obj C fsd))) O (σ.set j (some v)) G2 H2 → tz D (σ.set j (some v)) H2) :
    tSeq (fun D σ H => tAsg (tMakeS C (spInit K C CE A) (WE (wAs K (.ref CE) i tsu Wout D)) tA) (gName j) D σ H) tz D σ H := g_tryMakeS (D := { D with nx := tz D }) h ha hx S (fun e a H2 => k1 e a H2 _ rfl) k2
end
end Ly

set_option maxHeartbeats 4000000
namespace Ly
open PySem L2 PySem.Spec PyProof.Rows
section
variable {W : Wd} {K : PySem.W.Frag} {Γ : List (Option Dat)} {ta tb tc te tl tv tn : TE} {tt tu : TT} {tA : TA} {P R S : Dat → Prop} {d a b : Dat} {G1 G0 H0 G H G2 H2 : Hp} {O : List (Addr × List Dat)} {σ : L2.St} {D : Ends} {tz ts tw : TS}
/-- [f(x) for x in a tuple] -/
theorem n_lcMT {α : Type} {j : Nat} {us : List α} {f g : α → Dat} (h : EvX W K tl Γ (.tup (us.map f))) (hl : us.length < 100000) (he : ∀ x, x ∈ us → EvX W K te ((wipeG Γ [j]).set j (some (f x))) (g x)) :
    EvN W K (tLc (iTup K tl) (gName j) tYes te [j]) Γ (· = us.map g) :=
  n_lcT (fun i ds => ds = (us.take i).map g) h rfl (fun i d hd => by
    rw [List.getElem?_map] at hd
    cases e : us[i]? with
    | none =>
      rw [e] at hd
      cases hd
    | some x =>
      rw [e] at hd
      have ed : f x = d := Option.some.inj hd
      subst ed
      refine tn_each (fun ds e => by rw [e, List.length_map, List.length_take]; omega) fun ds e2 => (he x (List.mem_of_getElem? e)).imp fun d ed => ?_
      rw [e2, ed, List.take_succ, e]
      simp) fun ds e => by
    rw [List.length_map, List.take_length] at e
    exact e
/-- list(t), t told by what it is -/
theorem n_listTP {R : List Dat → Prop} (h : Ev W K ta Γ fun d => ∃ ds, d = .tup ds ∧ R ds) : EvN W K (tCB (rLst K) (tCons ta tNil)) Γ R := fun σ G H n k Q q =>
  h σ G H n k _ fun v d G2 H2 s ⟨ds, e, hr⟩ r => by
    subst e
    obtain ⟨a, xs, rfl, hx, rs⟩ := r.tup_inv
    have k2 := s.ok k
    refine ⟨a, xs, rfl, .inr (ex_t k2.ex hx), fun p hp => ?_⟩
    have st : Stp W G2 H2 G2 (upd H2 p (.lst xs)) := Stp.grow k2 (Ex.new hp)
    exact q p xs ds G2 _ (s.trans st) (back s hp).1 (back (Stp.refl k2) hp).2 upd_same rs hr
/-- xs[i] = e, xs the own list, which e reads too -/
theorem g_putK {l : Addr} {ds : List Dat} {i : Nat} {m : Int} (hi0 : Γ[i]? = some (some (.adr l))) (hn : NLs ds) (hG : NLG i 0 Γ) (hO : ∀ k es, (k, es) ∈ O → NLs es) (h : Ev W K te (Γ.set i (some (.lst ds))) P) (hp : ∀ d, P d → NL d) (hi : Ev W K tb (Γ.set i (some (.lst ds))) (Drawn m)) (hl : (ds.length : Int) = m) (S : S4 W K G1 G0 H0 Γ ((l, ds) :: O) σ G H)
    (k : ∀ (j : Nat) d G2 H2, j < ds.length → P d → S4 W K G1 G0 H0 Γ ((l, ds.set j d) :: O) σ G2 H2 → D.nx σ H2) : tAsg te (gSub (tVar i) tb rSetL) D σ H := by
  obtain ⟨t, e1, Gk, Sk, xs, x1, x2⟩ := S.keepT hi0
  refine h σ Gk H Sk.env Sk.ok _ fun v d G2 H2 s p r => ?_
  have S2 := Sk.step s
  refine ⟨.ref l, e1, ?_⟩
  refine hi σ G2 H2 S2.env S2.ok _ fun y e G4 H4 s4 ⟨j, ej, j0, j1⟩ r4 => ?_
  subst ej
  cases r4
  have S4' := S2.step s4
  have g4 : G4 l = some (.lst xs) := s4.gg _ _ (s.gg _ _ x1)
  have lenΓ : i < Γ.length := by
    rcases Nat.lt_or_ge i Γ.length with z | z
    · exact z
    · rw [List.getElem?_eq_none z] at hi0
      cases hi0
  have S5 := S4.thaw t e1 ⟨xs, g4, (x2.mono s.gg).mono s4.gg⟩ S4' hn (fun j d hj hd => by
    rw [List.getElem?_set_ne (Ne.symm hj)] at hd
    exact hG.of j d hj hd) hO
  have eΓ : ((Γ.set i (some (.lst ds))).set i (some (.adr l))) = Γ := by
    rw [List.set_set]
    apply List.ext_getElem?
    intro n
    by_cases hz : i = n
    · subst hz
      rw [List.getElem?_set_self lenΓ, hi0]
    · rw [List.getElem?_set_ne hz]
  rw [eΓ] at S5
  obtain ⟨ys, h1, h2⟩ := (S5.own l ds List.mem_cons_self).at'
  have hlen := h2.length
  refine ⟨l, ys, j, j.toNat, rfl, rfl, h1, ?_, ?_⟩
  · unfold ixN
    rw [if_pos j0, if_pos (by omega)]
  · exact k j.toNat d _ _ (by omega) p (S5.put (h2.set (Rep.thaw g4 (hp d p) (r.mono s4.gg)) j.toNat))
theorem q_putK {l : Addr} {ds : List Dat} {i : Nat} {m : Int} (hi0 : Γ[i]? = some (some (.adr l))) (hn : NLs ds) (hG : NLG i 0 Γ) (hO : ∀ k es, (k, es) ∈ O → NLs es) (h : Ev W K te (Γ.set i (some (.lst ds))) P) (hp : ∀ d, P d → NL d) (hi : Ev W K tb (Γ.set i (some (.lst ds))) (Drawn m)) (hl : (ds.length : Int) = m) (S : S4 W K G1 G0 H0 Γ ((l, ds) :: O) σ G H)
    (k : ∀ (j : Nat) d G2 H2, j < ds.length → P d → S4 W K G1 G0 H0 Γ ((l, ds.set j d) :: O) σ G2 H2 → tz D σ H2) : tSeq (tAsg te (gSub (tVar i) tb rSetL)) tz D σ H := g_putK (D := { D with nx := tz D }) hi0 hn hG hO h hp hi hl S k
end
/-! ## what the laws share -/
theorem nls_ints : ∀ ns : List Int, NLs (dI ns) := NLs.ints
theorem dI_set (xs : List Int) (j : Nat) (x : Int) : (dI xs).set j (.int x) = dI (xs.set j x) := (List.map_set ..).symm
theorem dI_add (xs : List Int) (x : Int) : dI xs ++ [.int x] = dI (xs ++ [x]) := by simp
theorem wk_tail : ∀ (n : Nat) (Γ : List (Option Dat)), Wk Γ (Γ.take n ++ List.replicate (Γ.length - n) none)
  | _, [] => by simp; exact .nil
  | 0, a :: Γ => by
    have h := wk_tail 0 Γ
    simp at h ⊢
    exact .drop h
  | n + 1, a :: Γ => by
    have h := wk_tail n Γ
    simp at h ⊢
    exact .keep h
theorem b_like {W : Wd} {K : PySem.W.Frag} {Γ : List (Option Dat)} {ta tb : TE} {d : Dat} {E : XK} {n : Nat} (ha : EvX W K ta Γ d) (hb : EvX W K tb Γ d) (h : Pl n d) : EvBX W K (tNot (tB (tCall (spOf Wd0 K (A_like n)) [] E (tCons ta (tCons tb tNil))))) Γ false :=
  b_notx (a := true) (b_Bx (v_call0x (a_consx ha (a_consx hb a_nil)) ⟨d, h, rfl, rfl⟩))
/-- many draws -/
def IsDr (m : Int) (d : Dat) : Prop := ∃ ns : List Int, d = .lst (dI ns) ∧ (ns.length : Int) = m ∧ InB 4096 ns
def A_some (p : Addr) : Sig := fun ds P => ∃ m : Int, 0 ≤ m ∧ m ≤ 1000 ∧ ds = [.adr p, .int m] ∧ P = IsDr m
def spSome (K : PySem.W.Frag) : Sp := fun vs H Q E => ∃ p c ns, spOf (WP p c ns) K (A_some p) vs H Q E
/-- a def that draws, by its signature -/
def spD (K : PySem.W.Frag) (A : Addr → Sig) : Sp := fun vs H Q E => ∃ p c ns, spOf (WP p c ns) K (A p) vs H Q E
theorem spD_len {K : PySem.W.Frag} {A : Addr → Sig} {n : Nat} (h : ∀ p ds P, A p ds P → ds.length = n) : ∀ vs H Q E, spD K A vs H Q E → vs.length = n := fun vs H Q E ⟨p, _, _, q⟩ => spOf_len (h p) vs H Q E q
section
variable {W : Wd} {K : PySem.W.Frag} {Γ : List (Option Dat)} {ta tb tc te : TE} {tA : TA} {p c : Addr} {ns : List Int} {E : XK} {P : Dat → Prop}
theorem v_some {m : Int} (ha : EvX (WP p c ns) K ta Γ (.adr p)) (hb : EvX (WP p c ns) K tb Γ (.int m)) (h0 : 0 ≤ m) (h1 : m ≤ 1000) : Ev (WP p c ns) K (tCall (spSome K) [] E (tCons ta (tCons tb tNil))) Γ (IsDr m) := fun σ G H n k Q q =>
  a_consx ha (a_consx hb a_nil) σ G H n k _ fun vs ds G2 H2 s e r => by
    subst e
    rw [List.append_nil]
    exact ⟨p, c, ns, G2, _, _, s.ok k, r, ⟨m, h0, h1, rfl, rfl⟩, q.step s⟩
theorem v_callD {A : Addr → Sig} {R : List Dat → Prop} (h : EvA (WP p c ns) K tA Γ R) (hs : ∀ ds, R ds → A p ds P) : Ev (WP p c ns) K (tCall (spD K A) [] E tA) Γ P := fun σ G H n k Q q =>
  h σ G H n k _ fun vs ds G2 H2 s e r => by
    rw [List.append_nil]
    exact ⟨p, c, ns, G2, _, _, s.ok k, r, hs ds e, q.step s⟩
/-- a drawn number out of one that is known -/
theorem v_part {a j m : Int} (ha : EvX W K ta Γ (.int a)) (hj : 0 < j ∧ j < 1073741824) (hm : 0 < m) (hb : EvX W K tb Γ (.int m)) : Ev W K (tOp (rI (fun _ j => 0 < j) fun i j => .int (i % j)) (tOp (rI CDiv fun i j => .int (i / j)) ta (tC (.int j))) tb) Γ (Drawn m) :=
  EvX.any (v_mod (v_fdiv ha v_int hj) hb hm) ⟨_, rfl, Int.emod_nonneg _ (by omega), Int.emod_lt_of_pos _ hm⟩
theorem v_rest {a m : Int} (ha : EvX W K ta Γ (.int a)) (hm : 0 < m) (hb : EvX W K tb Γ (.int m)) : Ev W K (tOp (rI (fun _ j => 0 < j) fun i j => .int (i % j)) ta tb) Γ (Drawn m) :=
  EvX.any (v_mod ha hb hm) ⟨_, rfl, Int.emod_nonneg _ (by omega), Int.emod_lt_of_pos _ hm⟩
end
theorem drawn_at {m : Int} {ns : List Int} (h : InB m ns) {i : Nat} (hi : i < ns.length) : ∃ a, ns[i]? = some a ∧ 0 ≤ a ∧ a < m := ⟨ns[i], List.getElem?_eq_getElem hi, h _ (List.getElem_mem _)⟩
end Ly
namespace Ly
open PySem L2 PySem.Spec PyProof.Rows
section
variable {W : Wd} {K : PySem.W.Frag} {Γ : List (Option Dat)} {te tn : TE}
/-- many drawn numbers, the place told to be below -/
theorem n_lcB {j : Nat} {b m : Int} (hn : EvX W K tn Γ (.int m)) (h0 : 0 ≤ m) (hm : m ≤ 10000) (he : ∀ i : Nat, (i : Int) < m → Ev W K te ((wipeG Γ [j]).set j (some (.int (i : Int)))) (Drawn b)) :
    EvN W K (tLc (iRng1 (tCons tn tNil)) (gName j) tYes te [j]) Γ fun ds => ∃ ns, ds = dI ns ∧ (ns.length : Int) = m ∧ InB b ns :=
  n_lcR (fun _ i ds => Each (fun _ => Drawn b) i ds) (EvA.imp (a_cons hn a_nil) fun ds ⟨d, r, e, ed, er⟩ => ⟨m, by rw [e, ed, er], ⟨by omega, by omega⟩, Each.nil, fun i hi => tn_P (by omega) (he i hi), fun ds h => by
    obtain ⟨ns, h2, h3, h4⟩ := each_drawn h
    exact ⟨ns, h2, by omega, h4⟩⟩)
end
end Ly

set_option maxHeartbeats 4000000
namespace Ly
open PySem L2 PySem.Spec PyProof.Rows
section
variable {X : Cx} {k j : Nat} {x : Str} {sp : Sp} {dvs : List V} {p pos : Pos}
/-- a call without arguments -/
theorem pe_c0 (c : C8.Cal X.prog X.w X.K X.mg X.base k x sp dvs) (hr : Room j X.A) (hk : k ≤ j) (hg : Gl X x) (hdb : (x == ("__debug__" : Str)) = false := by decide) : PE X (.Call (.Name x p) [] [] pos) (tCall sp dvs E0 tNil) := by
  obtain ⟨f, fd, ps, ds, F, hm, kp, b, d⟩ := c.ex
  exact pe_call0 F (hr.mono hk) hg hm kp b d pass0 hdb
end
theorem wk_none : ∀ Γ : List (Option Dat), Wk Γ (List.replicate Γ.length none)
  | [] => .nil
  | _ :: Γ => .drop (wk_none Γ)
section
variable {W : Wd} {K : PySem.W.Frag} {Γ : List (Option Dat)} {ta tb tc te tl tv tn : TE} {tt tu : TT} {tA : TA} {P S : Dat → Prop} {d a b : Dat} {G1 G0 H0 G H G2 H2 : Hp} {O : List (Addr × List Dat)} {σ : L2.St} {D : Ends} {tz ts tw : TS}
/-- the same, the place told by what it is -/
theorem g_putR {l : Addr} {ds : List Dat} {i : Nat} {R : Nat → Prop} (hi0 : Γ[i]? = some (some (.adr l))) (hn : NLs ds) (hG : NLG i 0 Γ) (hO : ∀ k es, (k, es) ∈ O → NLs es) (h : Ev W K te (Γ.set i (some (.lst ds))) P) (hp : ∀ d, P d → NL d) (hi : Ev W K tb (Γ.set i (some (.lst ds))) fun e => ∃ j : Nat, e = .int (j : Int) ∧ j < ds.length ∧ R j) (S : S4 W K G1 G0 H0 Γ ((l, ds) :: O) σ G H)
    (k : ∀ (j : Nat) d G2 H2, j < ds.length → R j → P d → S4 W K G1 G0 H0 Γ ((l, ds.set j d) :: O) σ G2 H2 → D.nx σ H2) : tAsg te (gSub (tVar i) tb rSetL) D σ H := by
  obtain ⟨t, e1, Gk, Sk, xs, x1, x2⟩ := S.keepT hi0
  refine h σ Gk H Sk.env Sk.ok _ fun v d G2 H2 s p r => ?_
  have S2 := Sk.step s
  refine ⟨.ref l, e1, ?_⟩
  refine hi σ G2 H2 S2.env S2.ok _ fun y e G4 H4 s4 ⟨j, ej, j0, j1⟩ r4 => ?_
  subst ej
  cases r4
  have S4' := S2.step s4
  have g4 : G4 l = some (.lst xs) := s4.gg _ _ (s.gg _ _ x1)
  have lenΓ : i < Γ.length := by
    rcases Nat.lt_or_ge i Γ.length with z | z
    · exact z
    · rw [List.getElem?_eq_none z] at hi0
      cases hi0
  have S5 := S4.thaw t e1 ⟨xs, g4, (x2.mono s.gg).mono s4.gg⟩ S4' hn (fun j d hj hd => by
    rw [List.getElem?_set_ne (Ne.symm hj)] at hd
    exact hG.of j d hj hd) hO
  have eΓ : ((Γ.set i (some (.lst ds))).set i (some (.adr l))) = Γ := by
    rw [List.set_set]
    apply List.ext_getElem?
    intro n
    by_cases hz : i = n
    · subst hz
      rw [List.getElem?_set_self lenΓ, hi0]
    · rw [List.getElem?_set_ne hz]
  rw [eΓ] at S5
  obtain ⟨ys, h1, h2⟩ := (S5.own l ds List.mem_cons_self).at'
  have hlen := h2.length
  refine ⟨l, ys, (j : Int), j, rfl, rfl, h1, ?_, ?_⟩
  · unfold ixN
    rw [if_pos (by omega), if_pos (by omega)]
    rfl
  · exact k j d _ _ j0 j1 p (S5.put (h2.set (Rep.thaw g4 (hp d p) (r.mono s4.gg)) j))
theorem q_putR {l : Addr} {ds : List Dat} {i : Nat} {R : Nat → Prop} (hi0 : Γ[i]? = some (some (.adr l))) (hn : NLs ds) (hG : NLG i 0 Γ) (hO : ∀ k es, (k, es) ∈ O → NLs es) (h : Ev W K te (Γ.set i (some (.lst ds))) P) (hp : ∀ d, P d → NL d) (hi : Ev W K tb (Γ.set i (some (.lst ds))) fun e => ∃ j : Nat, e = .int (j : Int) ∧ j < ds.length ∧ R j) (S : S4 W K G1 G0 H0 Γ ((l, ds) :: O) σ G H)
    (k : ∀ (j : Nat) d G2 H2, j < ds.length → R j → P d → S4 W K G1 G0 H0 Γ ((l, ds.set j d) :: O) σ G2 H2 → tz D σ H2) : tSeq (tAsg te (gSub (tVar i) tb rSetL)) tz D σ H := g_putR (D := { D with nx := tz D }) hi0 hn hG hO h hp hi S k
end
end Ly

set_option maxHeartbeats 4000000
namespace Ly
open PySem L2 PySem.Spec PyProof.Rows
section
variable {X : Cx}
/-- a op= b of ints under a condition -/
def ipC (C : Int → Int → Prop) (f : Int → Int → Int) : TIp := fun x y H Q => ∃ i j, x = .int i ∧ y = .int j ∧ C i j ∧ Q (.int (f i j)) H
theorem ip_mulW : PIp X .Mult (ipC CMulW fun i j => i * j) := by
  intro pins s σ H x y v u Q I ra rb ⟨i, j, ex, ey, c, q⟩
  subst ex ey
  obtain ⟨t, rfl⟩ := ra
  obtain ⟨t', rfl⟩ := rb
  exact imul_int ⟨.int _, H, I.tok _, ⟨_, rfl⟩, q⟩ c.ok
theorem ip_fdivW : PIp X .FloorDiv (ipC CDivW fun i j => i / j) := by
  intro pins s σ H x y v u Q I ra rb ⟨i, j, ex, ey, c, q⟩
  subst ex ey
  obtain ⟨t, rfl⟩ := ra
  obtain ⟨t', rfl⟩ := rb
  have h1 : (0 : Int) < j := c.1
  exact ifloordiv_int (by omega) (by rw [Int.fdiv_eq_ediv_of_nonneg i (by omega)]; exact ⟨.int _, H, I.tok _, ⟨_, rfl⟩, q⟩) (.inl (PyProof.noPylong_of_log2 c.2))
end
theorem log_lt {i : Int} {k : Nat} (h : i.natAbs < 2 ^ k) (hk : 0 < k) : i.natAbs.log2 < k := by
  by_cases z : i.natAbs = 0
  · rw [z]
    exact hk
  · exact (Nat.log2_lt z).mpr h
theorem abs_lt {i : Int} {m : Nat} (h0 : 0 ≤ i) (h : i < (m : Int)) : i.natAbs < m := by omega
theorem mulW_of {i j : Int} (hi : i.natAbs < 2 ^ 250) (hj : j.natAbs < 2 ^ 250) : CMulW i j := by
  have h1 := log_lt hi (by omega)
  have h2 := log_lt hj (by omega)
  show _ + _ < 1000000
  omega
theorem divW_of {i j : Int} (h0 : 0 < j) (hj : j.natAbs < 2 ^ 250) : CDivW i j := ⟨h0, by have := log_lt hj (by omega); omega⟩
section
variable {W : Wd} {K : PySem.W.Frag} {Γ : List (Option Dat)} {ta tb tc te tl tv tn : TE} {tt tu : TT} {tA : TA} {P R S : Dat → Prop} {d a b : Dat} {G1 G0 H0 G H G2 H2 : Hp} {O : List (Addr × List Dat)} {σ : L2.St} {D : Ends} {tz ts tw : TS}
theorem v_mulW {i j : Int} (ha : EvX W K ta Γ (.int i)) (hb : EvX W K tb Γ (.int j)) (hc : CMulW i j) : EvX W K (tOp (rI CMulW fun i j => .int (i * j)) ta tb) Γ (.int (i * j)) := v_opx ha hb (rv_I (g := fun i j => .int (i * j)) (fun _ => .int _) hc)
theorem v_fdivW {i j : Int} (ha : EvX W K ta Γ (.int i)) (hb : EvX W K tb Γ (.int j)) (hc : CDivW i j) : EvX W K (tOp (rI CDivW fun i j => .int (i / j)) ta tb) Γ (.int (i / j)) := v_opx ha hb (rv_I (g := fun i j => .int (i / j)) (fun _ => .int _) hc)
theorem g_augC {i : Nat} {C : Int → Int → Prop} {f : Int → Int → Int} {a b : Int} (hx : Γ[i]? = some (some (.int a))) (h : EvX W K te Γ (.int b)) (hc : C a b) (S : S4 W K G1 G0 H0 Γ O σ G H) (k : ∀ σ2 G2 H2, S4 W K G1 G0 H0 (Γ.set i (some (.int (f a b)))) O σ2 G2 H2 → D.nx σ2 H2) : tAug i te (ipC C f) D σ H := by
  obtain ⟨v, h1, h2⟩ := S.env.at' i _ hx
  cases h2
  refine ⟨.int a, h1, h σ G H S.env S.ok _ fun y d G2 H2 s e r => ?_⟩
  subst e
  cases r
  exact ⟨a, b, rfl, rfl, hc, k _ G2 H2 ((S.step s).set (.int _))⟩
theorem q_augC {i : Nat} {C : Int → Int → Prop} {f : Int → Int → Int} {a b : Int} (hx : Γ[i]? = some (some (.int a))) (h : EvX W K te Γ (.int b)) (hc : C a b) (S : S4 W K G1 G0 H0 Γ O σ G H) (k : ∀ σ2 G2 H2, S4 W K G1 G0 H0 (Γ.set i (some (.int (f a b)))) O σ2 G2 H2 → tz D σ2 H2) : tSeq (tAug i te (ipC C f)) tz D σ H := g_augC (D := { D with nx := tz D }) hx h hc S k
theorem v_gcd {i j : Int} (ha : EvX W K ta Γ (.int i)) (hb : EvX W K tb Γ (.int j)) : EvX W K (tCB rGcd (tCons ta (tCons tb tNil))) Γ (.int ((Nat.gcd i.natAbs j.natAbs : Nat) : Int)) := v_cbx (a_consx ha (a_consx hb a_nil)) fun G H xs k r Q q => by
  cases r with
  | cons r1 r =>
    cases r with
    | cons r2 r =>
      cases r
      cases r1
      cases r2
      exact ⟨i, j, rfl, q.here k (.int _) rfl⟩
/-- [..] * n -/
theorem n_rep {ds : List Dat} {n : Nat} (ha : EvN W K ta Γ (· = ds)) (hb : EvX W K tb Γ (.int (n : Int))) (hz : ds.length * n ≤ 100000) (hn : n ≤ 100000) : EvN W K (tOp rRep ta tb) Γ (· = (List.replicate n ds).flatten) := fun σ G H env k Q q =>
  ha σ G H env k _ fun p xs es G2 H2 s h0 g2 h2 r e => by
    subst e
    have k2 := s.ok k
    refine hb σ G2 H2 (env.mono s.gg) k2 _ fun y dy G3 H3 t ey ry => ?_
    subst ey
    cases ry
    have hm : ¬ W.m p := fun hm => by
      obtain ⟨z, hz⟩ := W.tr k.inv hm
      rw [hz] at h0
      cases h0
    have h3 := t.hh p _ hm h2
    refine ⟨p, n, xs, rfl, rfl, h3, by omega, by omega, by rw [r.length, Int.toNat_natCast]; exact sz_of hz, fun l hl => ?_⟩
    have k3 := t.ok k2
    have st := s.trans t
    rw [Int.toNat_natCast]
    refine q l _ _ G3 _ (st.trans (Stp.grow k3 (Ex.new hl))) (back st hl).1 (back (Stp.refl k3) hl).2 upd_same ?_ rfl
    have r3 := r.mono t.gg
    clear h3 hl hn hz hb q
    induction n with
    | zero => exact .nil
    | succ n ih =>
      rw [List.replicate_succ, List.replicate_succ, List.flatten_cons, List.flatten_cons]
      exact r3.append ih
abbrev rInsert : V → List V → Hp → VK → Prop := fun x vs H Q => ∃ (l : Addr) (xs : List V) (i : Int) (y : V), x = .ref l ∧ vs = [.int i, y] ∧ H l = some (.lst xs) ∧ xs.length < sizeLine ∧ 0 ≤ i ∧ i < 2 ^ 63 ∧ Q .non (upd H l (.lst (xs.take i.toNat ++ [y] ++ xs.drop i.toNat)))
/-- xs.insert(i, e), xs the own list, which both read too -/
theorem g_insR {l : Addr} {ds : List Dat} {i : Nat} {R : Nat → Prop} (hi0 : Γ[i]? = some (some (.adr l))) (hn : NLs ds) (hG : NLG i 0 Γ) (hO : ∀ k es, (k, es) ∈ O → NLs es) (hi : Ev W K tb (Γ.set i (some (.lst ds))) fun e => ∃ j : Nat, e = .int (j : Int) ∧ j ≤ ds.length ∧ R j) (h : Ev W K te (Γ.set i (some (.lst ds))) P) (hp : ∀ d, P d → NL d) (hl : ds.length < 90000) (S : S4 W K G1 G0 H0 Γ ((l, ds) :: O) σ G H)
    (k : ∀ (j : Nat) d G2 H2, j ≤ ds.length → R j → P d → S4 W K G1 G0 H0 Γ ((l, ds.take j ++ [d] ++ ds.drop j) :: O) σ G2 H2 → D.nx σ H2) : tDrop (tBM K "list" rInsert (tVar i) (tCons tb (tCons te tNil))) D σ H := by
  obtain ⟨t, e1, Gk, Sk, xs, x1, x2⟩ := S.keepT hi0
  refine ⟨.ref l, e1, .inl ⟨rfl, xs, l_of (Sk.ok.ex _ _ x1)⟩, ?_⟩
  refine hi σ Gk H Sk.env Sk.ok _ fun y e G2 H2 s ⟨j, ej, j0, j1⟩ r => ?_
  subst ej
  cases r
  have S2 := Sk.step s
  refine h σ G2 H2 S2.env S2.ok _ fun v d G4 H4 s4 p r4 => ?_
  have S4' := S2.step s4
  have g4 : G4 l = some (.lst xs) := s4.gg _ _ (s.gg _ _ x1)
  have lenΓ : i < Γ.length := by
    rcases Nat.lt_or_ge i Γ.length with z | z
    · exact z
    · rw [List.getElem?_eq_none z] at hi0
      cases hi0
  have S5 := S4.thaw t e1 ⟨xs, g4, (x2.mono s.gg).mono s4.gg⟩ S4' hn (fun j d hj hd => by
    rw [List.getElem?_set_ne (Ne.symm hj)] at hd
    exact hG.of j d hj hd) hO
  have eΓ : ((Γ.set i (some (.lst ds))).set i (some (.adr l))) = Γ := by
    rw [List.set_set]
    apply List.ext_getElem?
    intro n
    by_cases hz : i = n
    · subst hz
      rw [List.getElem?_set_self lenΓ, hi0]
    · rw [List.getElem?_set_ne hz]
  rw [eΓ] at S5
  obtain ⟨ys, h1, h2⟩ := (S5.own l ds List.mem_cons_self).at'
  have hlen := h2.length
  refine ⟨l, ys, (j : Int), v, rfl, rfl, h1, by rw [hlen]; exact sz_lt (by omega), by omega, by omega, ?_⟩
  rw [Int.toNat_natCast]
  exact k j d _ _ j0 j1 p (S5.put (((h2.take j).append (.cons (Rep.thaw g4 (hp d p) r4) .nil)).append (h2.drop j)))
/-- for a, b in pairs: over a list, a tuple -/
theorem g_forL2 {ds : List Dat} {tl : TE} {js : List Nat} {tb : TS} {us : Dat → List Dat} (h : EvX W K tl Γ (.lst ds)) (hu : ∀ d, d ∈ ds → d = .tup (us d) ∧ (us d).length = js.length) (S : S4 W K G1 G0 H0 Γ O σ G H) (I : Nat → List (Option Dat) → List (Addr × List Dat) → Prop) (h0 : I 0 Γ O)
    (hs : ∀ G1 (i : Nat) d Γ' O' σ' G' H', ds[i]? = some d → I i Γ' O' → S4 W K G1 G0 H0 (setsG Γ' js (us d)) O' σ' G' H' → tb { D with nx := Word W K G1 G0 H0 (I (i + 1)), ct := Word W K G1 G0 H0 (I (i + 1)), bk := D.nx } σ' H')
    (hd : ∀ Γ' O' σ' G' H', I ds.length Γ' O' → S4 W K G1 G0 H0 Γ' O' σ' G' H' → D.nx σ' H') : tFor (iList K tl) (gTup K js.length (gNames js)) tb D σ H :=
  h σ G H S.env S.ok _ fun v d G2 H2 s e r => by
    subst e
    obtain ⟨a, xs, rfl, hx, r⟩ := r.lst_inv
    have S2 := S.step s
    have hl := r.length
    refine ⟨a, rfl, ⟨xs, ex_l S2.ok.ex hx⟩, for_list (fun i σ' H' => Word W K G2 G0 H0 (I i) σ' H') ⟨Γ, O, G2, h0, S2.here⟩ (fun i σ' H' _ ⟨Γ', O', G', _, S'⟩ => ex_l (S'.fr.trans S'.ok.ex) hx) (fun i x σ' H' hi ⟨Γ', O', G', hI, S'⟩ => ?_) (fun σ' H' ⟨Γ', O', G', hI, S'⟩ => hd Γ' O' σ' G' H' (by rw [← hl]; exact hI) (S'.base S2.fr))⟩
    obtain ⟨d, hd', rd⟩ := r.getV hi
    obtain ⟨eu, el⟩ := hu d (List.mem_of_getElem? hd')
    rw [eu] at rd
    obtain ⟨p, zs, rfl, hz, rz⟩ := rd.tup_inv
    exact ⟨p, zs, rfl, ex_t (S'.fr.trans S'.ok.ex) hz, by rw [rz.length]; exact el, gNames_run (js := js) (rz.mono S'.fr) el.symm S' fun σ2 S3 => hs G2 i d Γ' O' σ2 G' H' hd' hI S3⟩
theorem q_forL2 {ds : List Dat} {tl : TE} {js : List Nat} {tb : TS} {us : Dat → List Dat} (h : EvX W K tl Γ (.lst ds)) (hu : ∀ d, d ∈ ds → d = .tup (us d) ∧ (us d).length = js.length) (S : S4 W K G1 G0 H0 Γ O σ G H) (I : Nat → List (Option Dat) → List (Addr × List Dat) → Prop) (h0 : I 0 Γ O)
    (hs : ∀ G1 (i : Nat) d Γ' O' σ' G' H', ds[i]? = some d → I i Γ' O' → S4 W K G1 G0 H0 (setsG Γ' js (us d)) O' σ' G' H' → tb { D with nx := Word W K G1 G0 H0 (I (i + 1)), ct := Word W K G1 G0 H0 (I (i + 1)), bk := tz D } σ' H')
    (hd : ∀ Γ' O' σ' G' H', I ds.length Γ' O' → S4 W K G1 G0 H0 Γ' O' σ' G' H' → tz D σ' H') : tSeq (tFor (iList K tl) (gTup K js.length (gNames js)) tb) tz D σ H := g_forL2 (D := { D with nx := tz D }) h hu S I h0 hs hd
theorem q_forT2 {ds : List Dat} {tl : TE} {js : List Nat} {tb : TS} {us : Dat → List Dat} (h : EvX W K tl Γ (.tup ds)) (hu : ∀ d, d ∈ ds → d = .tup (us d) ∧ (us d).length = js.length) (S : S4 W K G1 G0 H0 Γ O σ G H) (I : Nat → List (Option Dat) → List (Addr × List Dat) → Prop) (h0 : I 0 Γ O)
    (hs : ∀ G1 (i : Nat) d Γ' O' σ' G' H', ds[i]? = some d → I i Γ' O' → S4 W K G1 G0 H0 (setsG Γ' js (us d)) O' σ' G' H' → tb { D with nx := Word W K G1 G0 H0 (I (i + 1)), ct := Word W K G1 G0 H0 (I (i + 1)), bk := tz D } σ' H')
    (hd : ∀ Γ' O' σ' G' H', I ds.length Γ' O' → S4 W K G1 G0 H0 Γ' O' σ' G' H' → tz D σ' H') : tSeq (tFor (iTup K tl) (gTup K js.length (gNames js)) tb) tz D σ H :=
  h σ G H S.env S.ok _ fun v d G2 H2 s e r => by
    subst e
    obtain ⟨a, xs, rfl, hx, r⟩ := r.tup_inv
    have S2 := S.step s
    have hl := r.length
    refine ⟨a, rfl, ⟨xs, ex_t S2.ok.ex hx⟩, for_tup (fun i σ' H' => Word W K G2 G0 H0 (I i) σ' H') ⟨Γ, O, G2, h0, S2.here⟩ (fun i σ' H' _ ⟨Γ', O', G', _, S'⟩ => ex_t (S'.fr.trans S'.ok.ex) hx) (fun i x σ' H' hi ⟨Γ', O', G', hI, S'⟩ => ?_) (fun σ' H' ⟨Γ', O', G', hI, S'⟩ => hd Γ' O' σ' G' H' (by rw [← hl]; exact hI) (S'.base S2.fr))⟩
    obtain ⟨d, hd', rd⟩ := r.getV hi
    obtain ⟨eu, el⟩ := hu d (List.mem_of_getElem? hd')
    rw [eu] at rd
    obtain ⟨p, zs, rfl, hz, rz⟩ := rd.tup_inv
    exact ⟨p, zs, rfl, ex_t (S'.fr.trans S'.ok.ex) hz, by rw [rz.length]; exact el, gNames_run (js := js) (rz.mono S'.fr) el.symm S' fun σ2 S3 => hs G2 i d Γ' O' σ2 G' H' hd' hI S3⟩
/-- for k in range(lo, hi) -/
theorem g_for2 {lo hi : Int} {j : Nat} {tb : TS} (h : EvAX W K tA Γ [.int lo, .int hi]) (h1 : -100000 ≤ lo ∧ lo ≤ 100000 ∧ -100000 ≤ hi ∧ hi ≤ 100000) (S : S4 W K G1 G0 H0 Γ O σ G H) (I : Nat → List (Option Dat) → List (Addr × List Dat) → Prop) (h0 : I 0 Γ O)
    (hs : ∀ (i : Nat) Γ' O' σ' G' H', lo + i < hi → I i Γ' O' → S4 W K G1 G0 H0 (Γ'.set j (some (.int (lo + i)))) O' σ' G' H' → tb { D with nx := Word W K G1 G0 H0 (I (i + 1)), ct := Word W K G1 G0 H0 (I (i + 1)), bk := D.nx } σ' H')
    (hd : ∀ Γ' O' σ' G' H', I (hi - lo).toNat Γ' O' → S4 W K G1 G0 H0 Γ' O' σ' G' H' → D.nx σ' H') : tFor (iRng2 tA) (gName j) tb D σ H :=
  h σ G H S.env S.ok _ fun vs ds G2 H2 s e r => by
    subst e
    cases r with
    | cons r r0 =>
      cases r0 with
      | cons r' r0 =>
        cases r0
        cases r
        cases r'
        exact ⟨lo, hi, rfl, ⟨by omega, by omega, by omega, by omega⟩, g_forR (lo := lo) I h0 (S.step s) (fun i Γ' O' σ' G' H' hlt hI S' => hs i Γ' O' σ' G' H' (by omega) hI S') hd⟩
theorem q_for2 {lo hi : Int} {j : Nat} {tb : TS} (h : EvAX W K tA Γ [.int lo, .int hi]) (h1 : -100000 ≤ lo ∧ lo ≤ 100000 ∧ -100000 ≤ hi ∧ hi ≤ 100000) (S : S4 W K G1 G0 H0 Γ O σ G H) (I : Nat → List (Option Dat) → List (Addr × List Dat) → Prop) (h0 : I 0 Γ O)
    (hs : ∀ (i : Nat) Γ' O' σ' G' H', lo + i < hi → I i Γ' O' → S4 W K G1 G0 H0 (Γ'.set j (some (.int (lo + i)))) O' σ' G' H' → tb { D with nx := Word W K G1 G0 H0 (I (i + 1)), ct := Word W K G1 G0 H0 (I (i + 1)), bk := tz D } σ' H')
    (hd : ∀ Γ' O' σ' G' H', I (hi - lo).toNat Γ' O' → S4 W K G1 G0 H0 Γ' O' σ' G' H' → tz D σ' H') : tSeq (tFor (iRng2 tA) (gName j) tb) tz D σ H := g_for2 (D := { D with nx := tz D }) h h1 S I h0 hs hd
/-- for k in range(lo, hi, step), step positive -/
theorem g_for3 {lo hi c : Int} {n : Nat} {j : Nat} {tb : TS} (h : EvAX W K tA Γ [.int lo, .int hi, .int c]) (hc : RgC lo hi c n) (S : S4 W K G1 G0 H0 Γ O σ G H) (I : Nat → List (Option Dat) → List (Addr × List Dat) → Prop) (h0 : I 0 Γ O)
    (hs : ∀ (i : Nat) Γ' O' σ' G' H', i < n → I i Γ' O' → S4 W K G1 G0 H0 (Γ'.set j (some (.int (lo + (i : Int) * c)))) O' σ' G' H' → tb { D with nx := Word W K G1 G0 H0 (I (i + 1)), ct := Word W K G1 G0 H0 (I (i + 1)), bk := D.nx } σ' H')
    (hd : ∀ Γ' O' σ' G' H', I n Γ' O' → S4 W K G1 G0 H0 Γ' O' σ' G' H' → D.nx σ' H') : tFor (iRng3 tA) (gName j) tb D σ H :=
  h σ G H S.env S.ok _ fun vs ds G2 H2 s e r => by
    subst e
    cases r with
    | cons r r0 =>
      cases r0 with
      | cons r' r0 =>
        cases r0 with
        | cons r'' r0 =>
          cases r0
          cases r
          cases r'
          cases r''
          exact ⟨lo, hi, c, n, rfl, hc, for_rangeC (fun i σ H => Word W K G1 G0 H0 (I i) σ H) ⟨Γ, O, G2, h0, S.step s⟩ (fun i σ' H' hlt ⟨Γ', O', G', hI, S'⟩ => hs i Γ' O' _ G' H' hlt hI (S'.set (.int _))) (fun σ' H' ⟨Γ', O', G', hI, S'⟩ => hd Γ' O' σ' G' H' hI S')⟩
/-- [e for x in range(lo, hi) if t] -/
theorem n_lcR2 {lo hi : Int} {j : Nat} {R : List Dat → Prop} (A : Nat → List Dat → Prop) (h : EvAX W K tA Γ [.int lo, .int hi]) (h1 : -100000 ≤ lo ∧ lo ≤ 100000 ∧ -100000 ≤ hi ∧ hi ≤ 100000) (h0 : A 0 []) (ht : ∀ i : Nat, lo + i < hi → Tn W K tt te ((wipeG Γ [j]).set j (some (.int (lo + i)))) (A i) (A (i + 1))) (hR : ∀ ds, A (hi - lo).toNat ds → R ds) :
    EvN W K (tLc (iRng2 tA) (gName j) tt te [j]) Γ R := fun σ G H n k Q q =>
  h σ G H n k _ fun vs ds G2 H2 s e r => by
    subst e
    cases r with
    | cons r r0 =>
      cases r0 with
      | cons r' r0 =>
        cases r0
        cases r
        cases r'
        have k2 := s.ok k
        refine ⟨lo, hi, rfl, ⟨by omega, by omega, by omega, by omega⟩, fun Dl hD => lc_range (lo := lo) (n := (hi - lo).toNat) (fun i H' => Cm W K G2 H2 Dl (A i) H') (cm_start k2 hD h0) (fun i H' hlt p => ?_) (fun H' p => ?_)⟩
        · exact ⟨wipe1, cm_turn k2 (fun G' e => env_turn (n.mono (s.gg.trans e)) (.int _)) p (ht i (by omega))⟩
        · exact cm_end p fun p xs ds G3 H3 s3 h0 g3 h3 r a => q p xs ds G3 H3 (s.trans s3) (back s h0).1 g3 h3 r (hR ds a)
end
end Ly

set_option maxHeartbeats 4000000
namespace Ly
open PySem L2 PySem.Spec PyProof.Rows
theorem Wk.set {Γ Γ' : List (Option Dat)} (w : Wk Γ Γ') : ∀ (i : Nat) (x : Option Dat), Wk (Γ.set i x) (Γ'.set i x) := by
  induction w with
  | nil => exact fun _ _ => .nil
  | keep w ih =>
    intro i x
    cases i with
    | zero => exact .keep w
    | succ i => exact .keep (ih i x)
  | drop w ih =>
    intro i x
    cases i with
    | zero => exact .keep w
    | succ i => exact .drop (ih i x)
section
variable {W : Wd} {K : PySem.W.Frag} {Γ : List (Option Dat)} {ta tb tc te tl tv tn : TE} {tt tu : TT} {tA : TA} {P R S : Dat → Prop} {d a b : Dat} {G1 G0 H0 G H G2 H2 : Hp} {O : List (Addr × List Dat)} {σ : L2.St} {D : Ends} {tz ts tw : TS}
/-- a, b = x, y -/
theorem g_par {i j : Nat} {x y : Dat} (h : EvAX W K tA Γ [x, y]) (S : S4 W K G1 G0 H0 Γ O σ G H) (k : ∀ σ2 G2 H2, S4 W K G1 G0 H0 ((Γ.set i (some x)).set j (some y)) O σ2 G2 H2 → D.nx σ2 H2) : tPar i j tA D σ H :=
  h σ G H S.env S.ok _ fun vs ds G2 H2 s e r => by
    subst e
    cases r with
    | cons r r0 =>
      cases r0 with
      | cons r' r0 =>
        cases r0
        exact ⟨_, _, rfl, k _ G2 H2 (((S.step s).set r).set r')⟩
/-- int(b), b a truth -/
theorem v_int1b {c : Bool} (h : EvX W K ta Γ (.bl c)) : EvX W K (tCB rInt1 (tCons ta tNil)) Γ (.int (if c then 1 else 0)) := v_cbx (a_consx h a_nil) fun G H xs k r Q q => by
  cases r with
  | cons r1 r =>
    cases r
    cases r1
    exact .inr ⟨c, rfl, q.here k (.int _) rfl⟩
/-- for x in reversed(a list) -/
theorem q_forRL {ds : List Dat} {j : Nat} {tb : TS} (h : EvX W K tl Γ (.lst ds)) (S : S4 W K G1 G0 H0 Γ O σ G H) (I : Nat → List (Option Dat) → List (Addr × List Dat) → Prop) (h0 : I 0 Γ O)
    (hs : ∀ G1 (i : Nat) d Γ' O' σ' G' H', i < ds.length → ds[ds.length - 1 - i]? = some d → I i Γ' O' → S4 W K G1 G0 H0 (Γ'.set j (some d)) O' σ' G' H' → tb { D with nx := Word W K G1 G0 H0 (I (i + 1)), ct := Word W K G1 G0 H0 (I (i + 1)), bk := tz D } σ' H')
    (hd : ∀ Γ' O' σ' G' H', I ds.length Γ' O' → S4 W K G1 G0 H0 Γ' O' σ' G' H' → tz D σ' H') : tSeq (tFor (RT.iRevA K tl) (gName j) tb) tz D σ H :=
  h σ G H S.env S.ok _ fun v d G2 H2 s e r => by
    subst e
    obtain ⟨a, xs, rfl, hx, r⟩ := r.lst_inv
    have S2 := S.step s
    have hl := r.length
    refine ⟨a, xs, rfl, .inl ⟨ex_l S2.ok.ex hx, RT.for_Itv (fun i σ' H' => Word W K G2 G0 H0 (I i) σ' H') ⟨Γ, O, G2, h0, S2.here⟩ (fun i σ' H' ⟨Γ', O', G', _, S'⟩ => ex_l (S'.fr.trans S'.ok.ex) hx) (fun i x σ' H' hi hxi ⟨Γ', O', G', hI, S'⟩ => ?_) (fun σ' H' ⟨Γ', O', G', hI, S'⟩ => hd Γ' O' σ' G' H' (by rw [← hl]; exact hI) (S'.base S2.fr))⟩⟩
    obtain ⟨d, hd', rd⟩ := r.getV hxi
    rw [hl] at hd' hi
    exact hs G2 i d Γ' O' _ G' H' hi hd' hI (S'.set (rd.mono S'.fr))
/-- xs.insert(i, e), xs the own list; slots that are read here are forgotten behind it -/
theorem q_insW {l : Addr} {ds : List Dat} {i : Nat} {R : Nat → Prop} {Γ' : List (Option Dat)} (w : Wk Γ Γ') (hi0 : Γ[i]? = some (some (.adr l))) (hi1 : Γ'[i]? = some (some (.adr l))) (hn : NLs ds) (hG : NLG i 0 Γ') (hO : ∀ k es, (k, es) ∈ O → NLs es) (hi : Ev W K tb (Γ.set i (some (.lst ds))) fun e => ∃ j : Nat, e = .int (j : Int) ∧ j ≤ ds.length ∧ R j) (h : Ev W K te (Γ.set i (some (.lst ds))) P) (hp : ∀ d, P d → NL d) (hl : ds.length < 90000) (S : S4 W K G1 G0 H0 Γ ((l, ds) :: O) σ G H)
    (k : ∀ (j : Nat) d G2 H2, j ≤ ds.length → R j → P d → S4 W K G1 G0 H0 Γ' ((l, ds.take j ++ [d] ++ ds.drop j) :: O) σ G2 H2 → tz D σ H2) : tSeq (tDrop (tBM K "list" rInsert (tVar i) (tCons tb (tCons te tNil)))) tz D σ H := by
  obtain ⟨t, e1, Gk, Sk, xs, x1, x2⟩ := S.keepT hi0
  refine ⟨.ref l, e1, .inl ⟨rfl, xs, l_of (Sk.ok.ex _ _ x1)⟩, ?_⟩
  refine hi σ Gk H Sk.env Sk.ok _ fun y e G2 H2 s ⟨j, ej, j0, j1⟩ r => ?_
  subst ej
  cases r
  have S2 := Sk.step s
  refine h σ G2 H2 S2.env S2.ok _ fun v d G4 H4 s4 p r4 => ?_
  have S4' := (S2.step s4).weak (w.set i (some (.lst ds)))
  have g4 : G4 l = some (.lst xs) := s4.gg _ _ (s.gg _ _ x1)
  have lenΓ : i < Γ'.length := by
    rcases Nat.lt_or_ge i Γ'.length with z | z
    · exact z
    · rw [List.getElem?_eq_none z] at hi1
      cases hi1
  have S5 := S4.thaw t e1 ⟨xs, g4, (x2.mono s.gg).mono s4.gg⟩ S4' hn (fun j d hj hd => by
    rw [List.getElem?_set_ne (Ne.symm hj)] at hd
    exact hG.of j d hj hd) hO
  have eΓ : ((Γ'.set i (some (.lst ds))).set i (some (.adr l))) = Γ' := by
    rw [List.set_set]
    apply List.ext_getElem?
    intro n
    by_cases hz : i = n
    · subst hz
      rw [List.getElem?_set_self lenΓ, hi1]
    · rw [List.getElem?_set_ne hz]
  rw [eΓ] at S5
  obtain ⟨ys, h1, h2⟩ := (S5.own l ds List.mem_cons_self).at'
  have hlen := h2.length
  refine ⟨l, ys, (j : Int), v, rfl, rfl, h1, by rw [hlen]; exact sz_lt (by omega), by omega, by omega, ?_⟩
  rw [Int.toNat_natCast]
  exact k j d _ _ j0 j1 p (S5.put (((h2.take j).append (.cons (Rep.thaw g4 (hp d p) r4) .nil)).append (h2.drop j)))
end
end Ly

set_option maxHeartbeats 4000000
namespace K08
open PySem L2 Ly
def topS (i : Nat) : Stmt := PySem.Challenge.pw_translatory_k08_tag_systems.main.body.getD i (.Pass ⟨0, 0, 0, 0⟩)
abbrev s_is_word : Stmt := topS 7
abbrev N_is_word : List Str := ["production", "symbols", "symbol"]
theorem sc_is_word : FnScope N_is_word ["production", "symbols"] (defScope s_is_word) := ⟨rfl, rfl, rfl, by decide +kernel, rfl, by decide +kernel, by decide +kernel⟩
abbrev s_Tags_init : Stmt := inClass (topS 6) 0
abbrev N_Tags_init : List Str := ["self", "productions", "symbols", "production"]
theorem sc_Tags_init : FnScope N_Tags_init ["self", "productions"] (defScope s_Tags_init) := ⟨rfl, rfl, rfl, by decide +kernel, rfl, by decide +kernel, by decide +kernel⟩
abbrev s_Tags_eq : Stmt := inClass (topS 6) 1
abbrev N_Tags_eq : List Str := ["self", "other"]
theorem sc_Tags_eq : FnScope N_Tags_eq ["self", "other"] (defScope s_Tags_eq) := ⟨rfl, rfl, rfl, by decide +kernel, rfl, by decide +kernel, by decide +kernel⟩
abbrev s_Tags_step : Stmt := inClass (topS 6) 2
abbrev N_Tags_step : List Str := ["self", "configuration", "production"]
theorem sc_Tags_step : FnScope N_Tags_step ["self", "configuration"] (defScope s_Tags_step) := ⟨rfl, rfl, rfl, by decide +kernel, rfl, by decide +kernel, by decide +kernel⟩
abbrev s_law_like : Stmt := topS 9
abbrev N_law_like : List Str := ["actual", "due", "k"]
theorem sc_law_like : FnScope N_law_like ["actual", "due"] (defScope s_law_like) := ⟨rfl, rfl, rfl, by decide +kernel, rfl, by decide +kernel, by decide +kernel⟩
abbrev s_law_productions : Stmt := topS 16
abbrev N_law_productions : List Str := ["draws", "count", "found", "k", "draw", "size", "j"]
theorem sc_law_productions : FnScope N_law_productions ["draws", "count"] (defScope s_law_productions) := ⟨rfl, rfl, rfl, by decide +kernel, rfl, by decide +kernel, by decide +kernel⟩
abbrev s_law_tags_step : Stmt := topS 17
abbrev N_law_tags_step : List Str := ["productions", "here"]
theorem sc_law_tags_step : FnScope N_law_tags_step ["productions", "here"] (defScope s_law_tags_step) := ⟨rfl, rfl, rfl, by decide +kernel, rfl, by decide +kernel, by decide +kernel⟩
abbrev s_law_pool : Stmt := topS 20
abbrev N_law_pool : List Str := ["script", "salt", "cell"]
theorem sc_law_pool : FnScope N_law_pool ["script"] (defScope s_law_pool) := ⟨rfl, rfl, rfl, by decide +kernel, rfl, by decide +kernel, by decide +kernel⟩
abbrev s_law_spread : Stmt := topS 21
abbrev N_law_spread : List Str := ["cell", "mixed", "total", "k"]
theorem sc_law_spread : FnScope N_law_spread ["cell"] (defScope s_law_spread) := ⟨rfl, rfl, rfl, by decide +kernel, rfl, by decide +kernel, by decide +kernel⟩
abbrev s_law_draw : Stmt := topS 22
abbrev N_law_draw : List Str := ["pool", "many", "cell", "mixed", "value"]
theorem sc_law_draw : FnScope N_law_draw ["pool", "many"] (defScope s_law_draw) := ⟨rfl, rfl, rfl, by decide +kernel, rfl, by decide +kernel, by decide +kernel⟩
abbrev s_law_some : Stmt := topS 23
abbrev N_law_some : List Str := ["pool", "many", "k"]
theorem sc_law_some : FnScope N_law_some ["pool", "many"] (defScope s_law_some) := ⟨rfl, rfl, rfl, by decide +kernel, rfl, by decide +kernel, by decide +kernel⟩
abbrev s_law_machine : Stmt := topS 24
abbrev N_law_machine : List Str := ["pool", "kind", "draws", "states", "symbols", "cells"]
theorem sc_law_machine : FnScope N_law_machine ["pool", "kind"] (defScope s_law_machine) := ⟨rfl, rfl, rfl, by decide +kernel, rfl, by decide +kernel, by decide +kernel⟩
abbrev s_law_begin : Stmt := topS 25
abbrev N_law_begin : List Str := ["pool", "kind", "data", "draws", "k"]
theorem sc_law_begin : FnScope N_law_begin ["pool", "kind", "data"] (defScope s_law_begin) := ⟨rfl, rfl, rfl, by decide +kernel, rfl, by decide +kernel, by decide +kernel⟩
abbrev s_law : Stmt := topS 26
abbrev N_law : List Str := ["script", "pool", "rows", "good", "at", "handed", "machine", "e", "here", "k", "due"]
theorem sc_law : FnScope N_law ["script"] (defScope s_law) := ⟨rfl, rfl, rfl, by decide +kernel, rfl, by decide +kernel, by decide +kernel⟩

structure Txt (K : PySem.W.Frag) (mg : Str → Option Value) (C_Tags C_InvalidMachine C_TooLarge : Addr) : Prop where
  n_all : mg "all" = none
  n_bool : mg "bool" = none
  n_int : mg "int" = none
  n_isinstance : mg "isinstance" = none
  n_len : mg "len" = none
  n_list : mg "list" = none
  n_range : mg "range" = none
  n_str : mg "str" = none
  n_tuple : mg "tuple" = none
  m_MOST_PRODUCTIONS : ∃ u, mg "MOST_PRODUCTIONS" = some u ∧ RelV (.int 20000) u
  g_Tags : mg "Tags" = some (.ref C_Tags)
  g_InvalidMachine : mg "InvalidMachine" = some (.ref C_InvalidMachine)
  g_TooLarge : mg "TooLarge" = some (.ref C_TooLarge)
  e_InvalidMachine : ErrP K mg "InvalidMachine" C_InvalidMachine
  cls : Cls K C_Tags
  na_productions : NoAttr K C_Tags "productions"
  k_TL : PySem.W.kitOne K (.ref C_InvalidMachine) (.ref C_TooLarge) = some false
/-! ## productions: a word or none -/
abbrev Pr := Option (List Int)
def prD : Pr → Dat
  | none => .non
  | some w => .tup (dI w)
abbrev prsD (ps : List Pr) : List Dat := ps.map prD
def wordOk (m : Int) (w : List Int) : Bool := w.all fun s => decide (0 ≤ s) && decide (s < m)
def prOk (m : Int) : Pr → Bool
  | none => true
  | some w => wordOk m w
def tagOk (ps : List Pr) : Bool := ps.all (prOk ps.length)
def Short (ps : List Pr) : Prop := ps.length ≤ 1000 ∧ ∀ w, some w ∈ ps → w.length ≤ 1000
abbrev tagF (ps : List Pr) : List (Str × Dat) := [("productions", .tup (prsD ps))]
def A_word : Sig := fun ds P => ∃ (w : List Int) (m : Int), w.length ≤ 1000 ∧ ds = [.tup (dI w), .int m] ∧ P = (· = .bl (wordOk m w))
def A_Tags : InitSig := fun ds r => ∃ ps, Short ps ∧ ds = [.lst (prsD ps)] ∧ r = if tagOk ps = true then some (tagF ps) else none
def A_eq (C : Addr) : Sig := fun ds P => ∃ ps qs, Short ps ∧ Short qs ∧ ds = [.obj C (tagF ps), .obj C (tagF qs)] ∧ P = (· = .bl (decide (ps = qs)))
def tagStep (ps : List Pr) : List Int → Option (List Int)
  | x :: _ :: r => match ps[x.toNat]? with
    | some (some w) => some (r ++ w)
    | _ => none
  | _ => none
theorem tagStep_of {ps : List Pr} {x y : Int} {r : List Int} {o : Pr} (hg : ps[x.toNat]? = some o) : tagStep ps (x :: y :: r) = o.map (r ++ ·) := by
  show (match ps[x.toNat]? with | some (some w) => some (r ++ w) | _ => none) = _
  rw [hg]
  cases o <;> rfl
def A_step (C : Addr) : Sig := fun ds P => ∃ (ps : List Pr) (ws : List Int), Short ps ∧ ws.length ≤ 10000 ∧ InB ps.length ws ∧ ds = [.obj C (tagF ps), .tup (dI ws)] ∧ P = (· = prD (tagStep ps ws))
def A_lstep : Sig := fun ds P => ∃ (ps : List Pr) (ws : List Int), Short ps ∧ ws.length ≤ 10000 ∧ InB ps.length ws ∧ ds = [.lst (prsD ps), .tup (dI ws)] ∧ P = (· = prD (tagStep ps ws))
theorem pl_pr {o : Pr} (h : ∀ w, o = some w → w.length ≤ 20000) : Pl 1 (prD o) := by
  cases o with
  | none => show Pl 1 .non; rw [Pl]; trivial
  | some w => exact Pl.ints (n := 0) (by have := h w rfl; omega)
theorem pls_prs : ∀ {ps : List Pr}, (∀ w, some w ∈ ps → w.length ≤ 1000) → Pls 1 (prsD ps)
  | [], _ => by simp [Pls]
  | o :: ps, h => by
    show Pls 1 (prD o :: prsD ps)
    rw [Pls]
    exact ⟨pl_pr fun w e => Nat.le_trans (h w (by rw [e]; exact List.mem_cons_self)) (by omega), pls_prs fun w hw => h w (List.mem_cons_of_mem _ hw)⟩
theorem pl_tag {ps : List Pr} (h : Short ps) : Pl 2 (.tup (prsD ps)) := by
  rw [Pl]
  exact ⟨by rw [List.length_map]; have := h.1; omega, pls_prs h.2⟩
theorem eqv_pr (x y : Pr) : PyData.eqv (toPy (prD x)) (toPy (prD y)) = decide (x = y) := by
  cases x with
  | none =>
    cases y with
    | none => simp [prD, toPy, PyData.eqv]
    | some w => simp [prD, toPy, PyData.eqv]
  | some v =>
    cases y with
    | none => simp [prD, toPy, PyData.eqv]
    | some w =>
      show PyData.eqv (toPy (.tup (dI v))) (toPy (.tup (dI w))) = _
      rw [eqv_ints]
      simp
theorem eqvs_prs : ∀ (xs ys : List Pr), PyData.eqvAll (toPys (prsD xs)) (toPys (prsD ys)) = decide (xs = ys)
  | [], [] => by simp [toPys, PyData.eqvAll]
  | [], m :: ms => by simp [toPys, PyData.eqvAll]
  | n :: ns, [] => by simp [toPys, PyData.eqvAll]
  | x :: xs, y :: ys => by
    show PyData.eqvAll (toPys (prD x :: prsD xs)) (toPys (prD y :: prsD ys)) = _
    rw [toPys, toPys, PyData.eqvAll, eqv_pr, eqvs_prs xs ys]
    by_cases h : x = y
    · subst h
      simp
    · simp [h]
theorem eqv_tag (xs ys : List Pr) : PyData.eqv (toPy (.tup (prsD xs))) (toPy (.tup (prsD ys))) = decide (xs = ys) := by
  rw [toPy, toPy, PyData.eqv]
  exact eqvs_prs xs ys
section
variable {P : Program} {w : World} {K : PySem.W.Frag} {mg : Str → Option Value} {base : Heap} {C_Tags C_InvalidMachine C_TooLarge : Addr}
theorem ok_word (D : Df K mg "_is_word" s_is_word) (T : Txt K mg C_Tags C_InvalidMachine C_TooLarge) : C8.Cal P w K mg base 1 "_is_word" (spOf Wd0 K A_word) [] := by
  refine cal_of D (fun _ _ _ _ _ _ us hl => match us, hl with | [_, _], _ => rfl) sc_is_word (spOf_len (n := 2) fun _ _ ⟨_, _, _, e, _⟩ => by rw [e]; rfl) fun f cdv A outer s H0 vs Q E hr h => ⟨_, (pss_one (ps_ret (pe_callB (r := rAll K) (cr_all rfl) (by rfl) T.n_all (by decide +kernel) (pa_cons (pe_lc (own := [("symbol", 2)]) (g := gName 2) (tt := tYes) rfl sc_is_word.nd (pi_tup (pv 0)) (blkOk_by (N := N_is_word) (sc := defScope s_is_word) (by decide +kernel)) (fun _ _ _ _ _ => pg_name (i := 2) sc_is_word.nd rfl (Or.inl rfl)) (fun _ _ _ _ _ => pts_nil) (fun _ _ _ _ _ => (pe_chain op_le op_lt pe_int (pv 2) (pv 1)))) pa_nil)))), ?_⟩
  obtain ⟨G0, ds, P, k, r, ⟨u, m, hl, rfl, rfl⟩, q⟩ := h
  have S := S4.start (N := N_is_word) k r
  refine g_ret (P := (· = .bl (wordOk m u))) (EvX.to (v_all (bs := u.map fun t => decide (0 ≤ t) && decide (t < m)) ?_) ?_) S q
  · exact EvN.evx (R := (· = (u.map fun t => decide (0 ≤ t) && decide (t < m)).map Dat.bl)) (EvN.imp (n_lcMT (us := u) (f := Dat.int) (g := fun t => .bl (decide (0 ≤ t) && decide (t < m))) (v_var rfl) (by omega) fun x _ => v_chain v_int (v_var rfl) (v_var rfl) r_le r_lt) fun ds e => by rw [e, List.map_map]; rfl) fun ds e => e
  · rw [List.all_map]
    rfl
theorem ok_init (M : ∃ f fd, Mk K C_Tags f ∧ Fun K "__init__" "Tags.__init__" s_Tags_init f fd) (T : Txt K mg C_Tags C_InvalidMachine C_TooLarge) (c_is_word : C8.Cal P w K mg base 1 "_is_word" (spOf Wd0 K A_word) []) : MakS P w K mg base 2 "Tags" C_Tags (spInit K C_Tags C_InvalidMachine A_Tags) := by
  refine maks_of M T.g_Tags (fun _ _ _ _ _ _ us hl => match us, hl with | [_, _], _ => rfl) sc_Tags_init (spInit_len (n := 1) fun _ _ ⟨_, _, e, _⟩ => by rw [e]; rfl) fun f cdv A outer s H0 vs Q E hr h => ⟨_, (pss_cons (ps_set (i := 2) sc_Tags_init.nd rfl (by first | exact Or.inl rfl | exact Or.inr rfl) (pe_callB (r := Ly.rLen K) call_len_seq (by rfl) T.n_len PySem.boot_len (pa_cons (pv 1) pa_nil)))
      (pss_cons (ps_if (pt_cmpR op_gt (pv 2) (C8.pe_gc (v := .int 20000) rfl T.m_MOST_PRODUCTIONS) (nomark _)) (pss_one (ps_raiseE rfl (takes_of rfl rfl rfl rfl) T.e_InvalidMachine rfl)) pss_nil)
      (pss_cons (ps_for (passes_of rfl) rfl (pi_list (pv 1)) (pg_name (i := 3) sc_Tags_init.nd rfl (by first | exact Or.inl rfl | exact Or.inr rfl))
        (pss_one (ps_if (PW.pt (pw_and (pt_cmp (pc_notN (pv 3))) (pw_and1 (pt_not (pt_val (C8.pe_c c_is_word hr (by decide) rfl (pa_cons (pv 3) (pa_cons (pv 2) pa_nil)))))))) (pss_one (ps_raiseE rfl (takes_of rfl rfl rfl rfl) T.e_InvalidMachine rfl)) pss_nil)))
      (pss_one (ps_fld (pv 0) (pe_tupleOf rfl T.n_tuple (pv 1)) rfl))))), ?_⟩
  obtain ⟨G0, x, dx, ds, vs', r, rfl, k, rr, ⟨ps, hs, rfl, er⟩, hE, hQ⟩ := h
  have S := S4.start (N := N_Tags_init) k (.cons (.adr x) rr)
  have bad : tagOk ps = false → ∀ H2, E (.ref C_InvalidMachine) none H2 := fun h H2 => hE (by rw [er, h]; rfl) H2
  refine q_setx (d := .int (ps.length : Int)) (EvX.to (v_lenL (v_var rfl)) (by rw [List.length_map])) S fun σ G H S => ?_
  refine q_when (EvBX.to (b_testx (v_gt (v_var rfl) v_int)) (decide_eq_false (by have := hs.1; omega))) S (fun e => nomatch e) fun _ G H S => ?_
  refine q_forL (ds := prsD ps) (v_var rfl) S (fun i Γ O => O = [] ∧ ∃ z, Γ = [some (.adr x), some (.lst (prsD ps)), some (.int (ps.length : Int)), z] ∧ (ps.take i).all (prOk ps.length) = true) ⟨rfl, none, rfl, rfl⟩ ?_ ?_
  · rintro G1 i d Γ O σ G H hd ⟨rfl, z, rfl, hall⟩ S
    obtain ⟨y, hy, rfl⟩ : ∃ y, ps[i]? = some y ∧ d = prD y := by
      rw [List.getElem?_map] at hd
      cases e : ps[i]? with
      | none =>
        rw [e] at hd
        cases hd
      | some y =>
        rw [e] at hd
        exact ⟨y, rfl, (Option.some.inj hd).symm⟩
    have hm := List.mem_of_getElem? hy
    refine g_if (P := (· = !prOk ps.length y)) ?_ S (fun e G H S => ?_) (fun e G H S => ?_)
    · cases y with
      | none => exact EvBX.to (b_andx (a := false) (b := false) (b_Bx (v_notNx (v_var (d := .non) rfl))) fun e => nomatch e) rfl
      | some u => exact EvBX.to (b_andx (a := true) (b_Bx (v_notNx (v_var (d := .tup (dI u)) rfl))) fun _ => b_notx (b_Bx (v_call0x (P := (· = .bl (wordOk ps.length u))) (a_consx (v_var rfl) (a_consx (v_var rfl) a_nil)) ⟨u, _, hs.2 u hm, rfl, rfl⟩))) rfl
    · refine bad ?_ _
      have e : prOk ps.length y = false := by simpa using e.symm
      unfold tagOk
      rw [List.all_eq_false]
      exact ⟨y, hm, by rw [e]; simp⟩
    · have e : prOk ps.length y = true := by simpa using e.symm
      refine ⟨_, _, _, ⟨rfl, some (prD y), rfl, ?_⟩, S⟩
      rw [List.take_succ, hy]
      simp [List.all_append, hall, e]
  · rintro Γ O σ G H ⟨rfl, z, rfl, hall⟩ S
    rw [List.length_map, List.take_length] at hall
    have eok : tagOk ps = true := hall
    rw [eok] at er
    refine g_fld (v_tupleLx (v_var (d := .lst (prsD ps)) rfl)) (v_var rfl) T.cls T.na_productions (by decide) S fun y2 d2 G2 H2 p2 r2 S => ?_
    subst p2
    exact hQ _ er G2 H2 _ S.stp (.cons r2 .nil)
theorem ok_eq (M : ∃ f fd, ClsQ K C_Tags f ∧ Fun K "__eq__" "Tags.__eq__" s_Tags_eq f fd) (T : Txt K mg C_Tags C_InvalidMachine C_TooLarge) : EqS P w K mg base 1 C_Tags (spOf Wd0 K (A_eq C_Tags)) := by
  have M2 := M
  obtain ⟨f0, _, q, _⟩ := M2
  refine eqs_of M (fun _ _ _ _ _ _ us hl => match us, hl with | [_, _], _ => rfl) sc_Tags_eq (spOf_len (n := 2) fun _ _ ⟨_, _, _, _, e, _⟩ => by rw [e]; rfl) fun f cdv A outer s H0 vs Q E hr h => ⟨_, (pss_one (ps_ret (pe_and (pe_callB (r := rIsi K) call_isi (by rfl) T.n_isinstance (by decide +kernel) (pa_cons (pv 1) (pa_cons (pe_glob (v := .ref C_Tags) rfl T.g_Tags rfl) pa_nil))) (pe_one (pe_cmpR (op_eqD hr.units) (pe_fld (pv 0) rfl) (pe_fld (pv 1) rfl) (nomark _)))))), ?_⟩
  obtain ⟨G0, ds, P, k, r, ⟨ps, qs, hp, hq, rfl, rfl⟩, qq⟩ := h
  have S := S4.start (N := N_Tags_eq) k r
  refine g_ret (P := (· = .bl (decide (ps = qs)))) (EvX.to (v_andx (v_isOwn q (v_var rfl)) fun _ => v_eqD (v_fld (v_var rfl) T.cls T.na_productions rfl) (v_fld (v_var rfl) T.cls T.na_productions rfl) (pl_tag hp) (pl_tag hq) (by omega)) ?_) S qq
  rw [eqv_tag]
  rfl
theorem ok_step (M : ∃ f fd, Meth K C_Tags "step" f ∧ Fun K "step" "Tags.step" s_Tags_step f fd) (T : Txt K mg C_Tags C_InvalidMachine C_TooLarge) : C8.Met P w K mg base 1 C_Tags "step" (spOf Wd0 K (A_step C_Tags)) [] := by
  refine met_of T.cls M (fun _ _ _ _ _ _ us hl => match us, hl with | [_, _], _ => rfl) sc_Tags_step (spOf_len (n := 2) fun _ _ ⟨_, _, _, _, _, e, _⟩ => by rw [e]; rfl) fun f cdv A outer s H0 vs Q E hr h => ⟨_, (pss_cons (ps_if (pt_cmpR op_lt (pe_callB (r := Ly.rLen K) call_len_seq (by rfl) T.n_len PySem.boot_len (pa_cons (pv 1) pa_nil)) pe_int (nomark _)) (pss_one (ps_ret pe_non)) pss_nil)
      (pss_cons (ps_set (i := 2) sc_Tags_step.nd rfl (by first | exact Or.inl rfl | exact Or.inr rfl) (pe_ix (r := rIxT K) ix_tup (pe_fld (pv 0) rfl) (pe_ix (r := rIxT K) ix_tup (pv 1) pe_int (fun _ _ => rfl)) (fun _ _ => rfl)))
      (pss_cons (ps_if (pt_cmp (pc_isN (pv 2))) (pss_one (ps_ret pe_non)) pss_nil)
      (pss_one (ps_ret (pe_op (r := rCatA K) op_catA (pe_slice (r := rSlA K) sl_tupA (pv 1) (po_some pe_int) po_none) (pv 2))))))), ?_⟩
  obtain ⟨G0, ds, P, k, r, ⟨ps, ws, hs, hl, hb, rfl, rfl⟩, q⟩ := h
  have S := S4.start (N := N_Tags_step) k r
  refine q_when (b_testx (v_lt (v_lenT (v_var (d := .tup (dI ws)) rfl)) v_int)) S (fun e G H S => ?_) (fun e G H S => ?_)
  · have e := of_decide_eq_true e.symm
    rw [List.length_map] at e
    have es : tagStep ps ws = none := by
      match ws, e with
      | [], _ => rfl
      | [_], _ => rfl
      | _ :: _ :: _, e => simp at e; omega
    rw [es] at q
    exact g_ret (P := (· = .non)) v_non S q
  · have e := of_decide_eq_false e.symm
    rw [List.length_map] at e
    match ws, e, hb, hl, S, q with
    | [], e, _, _, _, _ => simp at e
    | [_], e, _, _, _, _ => simp at e
    | x :: y :: r, e, hb, hl, S, q =>
      have hx := hb x List.mem_cons_self
      have hlt : x.toNat < ps.length := by omega
      have hg : ps[x.toNat]? = some ps[x.toNat] := List.getElem?_eq_getElem hlt
      generalize ps[x.toNat] = o at hg
      have es : tagStep ps (x :: y :: r) = o.map (r ++ ·) := tagStep_of hg
      rw [es] at q
      refine q_setx (d := prD o) (v_ixT (ds := prsD ps) (j := x.toNat) (v_fld (v_var rfl) T.cls T.na_productions rfl) (v_ix0 (d := .int x) (v_var (d := .tup (dI (x :: y :: r))) rfl) rfl) (by omega) (by rw [List.getElem?_map, hg]; rfl)) S fun σ G H S => ?_
      cases o with
      | none =>
        refine q_when (b_Bx (v_isNx (v_var (d := .non) rfl))) S (fun _ G H S => ?_) (fun e => nomatch e)
        exact g_ret (P := (· = .non)) v_non S q
      | some u =>
        refine q_when (b_Bx (v_isNx (v_var (d := .tup (dI u)) rfl))) S (fun e => nomatch e) fun _ G H S => ?_
        have hu := hs.2 u (List.mem_of_getElem? hg)
        refine g_ret (P := (· = .tup (dI (r ++ u)))) (EvX.to (v_cat (v_slT (v_var (d := .tup (dI (x :: y :: r))) rfl) (o_some (v_int (i := 2))) o_none) (v_var (d := .tup (dI u)) rfl) ?_) ?_) S q
        · rw [show (2 : Int) = ((2 : Nat) : Int) from rfl, cutD_from]
          simp at hl ⊢
          omega
        · rw [show (2 : Int) = ((2 : Nat) : Int) from rfl, cutD_from]
          simp
theorem ok_lstep (D : Df K mg "_law_tags_step" s_law_tags_step) (T : Txt K mg C_Tags C_InvalidMachine C_TooLarge) : C8.Cal P w K mg base 1 "_law_tags_step" (spOf Wd0 K A_lstep) [] := by
  refine cal_of D (fun _ _ _ _ _ _ us hl => match us, hl with | [_, _], _ => rfl) sc_law_tags_step (spOf_len (n := 2) fun _ _ ⟨_, _, _, _, _, e, _⟩ => by rw [e]; rfl) fun f cdv A outer s H0 vs Q E hr h => ⟨_, (pss_cons (ps_if (PW.pt (pw_or (pt_cmpR op_lt (pe_callB (r := Ly.rLen K) call_len_seq (by rfl) T.n_len PySem.boot_len (pa_cons (pv 1) pa_nil)) pe_int (nomark _)) (pw_or1 (pt_cmp (pc_isN (pe_ix (r := rIxL K) ix_list (pv 0) (pe_ix (r := rIxT K) ix_tup (pv 1) pe_int (fun _ _ => rfl)) (fun _ _ => rfl))))))) (pss_one (ps_ret pe_non)) pss_nil)
      (pss_one (ps_ret (pe_op (r := rCatA K) op_catA (pe_slice (r := rSlA K) sl_tupA (pv 1) (po_some pe_int) po_none) (pe_ix (r := rIxL K) ix_list (pv 0) (pe_ix (r := rIxT K) ix_tup (pv 1) pe_int (fun _ _ => rfl)) (fun _ _ => rfl)))))), ?_⟩
  obtain ⟨G0, ds, P, k, r, ⟨ps, ws, hs, hl, hb, rfl, rfl⟩, q⟩ := h
  have S := S4.start (N := N_law_tags_step) k r
  match ws, hb, hl, S, q with
  | [], hb, hl, S, q =>
    refine q_when (EvBX.to (b_orx (a := true) (b := false) (b_testx (v_lt (v_lenT (v_var (d := .tup (dI [])) rfl)) v_int)) fun e => nomatch e) rfl) S (fun _ G H S => ?_) (fun e => nomatch e)
    exact g_ret (P := (· = .non)) v_non S q
  | [z], hb, hl, S, q =>
    refine q_when (EvBX.to (b_orx (a := true) (b := false) (b_testx (v_lt (v_lenT (v_var (d := .tup (dI [z])) rfl)) v_int)) fun e => nomatch e) rfl) S (fun _ G H S => ?_) (fun e => nomatch e)
    exact g_ret (P := (· = .non)) v_non S q
  | x :: y :: r, hb, hl, S, q =>
    have hx := hb x List.mem_cons_self
    have hlt : x.toNat < ps.length := by omega
    have hg : ps[x.toNat]? = some ps[x.toNat] := List.getElem?_eq_getElem hlt
    generalize ps[x.toNat] = o at hg
    have es : tagStep ps (x :: y :: r) = o.map (r ++ ·) := tagStep_of hg
    rw [es] at q
    have hix : ∀ {Γ : List (Option Dat)}, Γ[0]? = some (some (.lst (prsD ps))) → Γ[1]? = some (some (.tup (dI (x :: y :: r)))) → EvX Wd0 K (tOp (rIxL K) (tVar 0) (tOp (rIxT K) (tVar 1) (tC (.int 0)))) Γ (prD o) := fun h0 h1 => v_ixL (ds := prsD ps) (j := x.toNat) (v_var h0) (v_ix0 (d := .int x) (v_var (d := .tup (dI (x :: y :: r))) h1) rfl) (by omega) (by rw [List.getElem?_map, hg]; rfl)
    refine q_when (EvBX.to (b := isN (prD o)) (b_orx (a := false) (EvBX.to (b_testx (v_lt (v_lenT (v_var (d := .tup (dI (x :: y :: r))) rfl)) v_int)) (decide_eq_false (by simp; omega))) fun _ => b_Bx (v_isNx (hix rfl rfl))) (Bool.false_or _)) S (fun e G H S => ?_) (fun e G H S => ?_)
    · cases o with
      | none => exact g_ret (P := (· = .non)) v_non S q
      | some u => cases e
    · cases o with
      | none => cases e
      | some u =>
        have hu := hs.2 u (List.mem_of_getElem? hg)
        refine g_ret (P := (· = .tup (dI (r ++ u)))) (EvX.to (v_cat (ys := dI u) (v_slT (v_var (d := .tup (dI (x :: y :: r))) rfl) (o_some (v_int (i := 2))) o_none) (hix rfl rfl) ?_) ?_) S q
        · rw [show (2 : Int) = ((2 : Nat) : Int) from rfl, cutD_from]
          simp at hl ⊢
          omega
        · rw [show (2 : Int) = ((2 : Nat) : Int) from rfl, cutD_from]
          simp
end
end K08

set_option maxHeartbeats 4000000
namespace K08
open PySem L2 Ly
section
variable {P : Program} {w : World} {K : PySem.W.Frag} {mg : Str → Option Value} {base : Heap} {C_Tags C_InvalidMachine C_TooLarge : Addr}
theorem like_scal {K : PySem.W.Frag} {Γ : List (Option Dat)} {i : Nat} {d : Dat} {T : String} {c : Bool} (h : Γ[i]? = some (some d)) (ht : typed d = true) (hk : kitB (tyN d) T = some c) : EvBX Wd0 K (tB (tCB (rIsi K) (tCons (tVar i) (tCons (tC (.ty T)) tNil)))) Γ c := b_Bx (v_is h ht hk)
theorem ok_like0 (D : Df K mg "_law_like" s_law_like) (T : Txt K mg C_Tags C_InvalidMachine C_TooLarge) : C8.Cal P w K mg base 1 "_law_like" (spOf Wd0 K (A_like 0)) [] := by
  refine cal_of D (fun _ _ _ _ _ _ us hl => match us, hl with | [_, _], _ => rfl) sc_law_like (spOf_len (n := 2) fun _ _ ⟨_, _, e, _⟩ => by rw [e]; rfl) fun f cdv A outer s H0 vs Q E hr h => ⟨_, (pss_cons (ps_if (pt_cmp (pc_isN (pv 1))) (pss_one (ps_ret (pe_cmp (pc_isN (pv 0))))) pss_nil)
      (pss_cons (ps_if (pt_val (pe_callB (r := rIsi K) call_isi (by rfl) T.n_isinstance (by decide +kernel) (pa_cons (pv 1) (pa_cons (pe_bltn (v := .ty "bool") rfl T.n_bool (by decide +kernel) rfl) pa_nil)))) (pss_one (ps_ret (pe_and (pe_callB (r := rIsi K) call_isi (by rfl) T.n_isinstance (by decide +kernel) (pa_cons (pv 0) (pa_cons (pe_bltn (v := .ty "bool") rfl T.n_bool (by decide +kernel) rfl) pa_nil))) (pe_one (pe_cmpR op_eq (pv 0) (pv 1) (nomark _)))))) pss_nil)
      (pss_cons (ps_if (pt_val (pe_callB (r := rIsi K) call_isi (by rfl) T.n_isinstance (by decide +kernel) (pa_cons (pv 1) (pa_cons (pe_bltn (v := .ty "str") rfl T.n_str (by decide +kernel) rfl) pa_nil)))) (pss_one (ps_ret (pe_and (pe_callB (r := rIsi K) call_isi (by rfl) T.n_isinstance (by decide +kernel) (pa_cons (pv 0) (pa_cons (pe_bltn (v := .ty "str") rfl T.n_str (by decide +kernel) rfl) pa_nil))) (pe_one (pe_cmpR op_eq (pv 0) (pv 1) (nomark _)))))) pss_nil)
      (pss_cons (ps_if (pt_val (pe_callB (r := rIsi K) call_isi (by rfl) T.n_isinstance (by decide +kernel) (pa_cons (pv 1) (pa_cons (pe_bltn (v := .ty "int") rfl T.n_int (by decide +kernel) rfl) pa_nil)))) (pss_one (ps_ret (pe_and (pe_callB (r := rIsi K) call_isi (by rfl) T.n_isinstance (by decide +kernel) (pa_cons (pv 0) (pa_cons (pe_bltn (v := .ty "int") rfl T.n_int (by decide +kernel) rfl) pa_nil))) (pe_and (pe_not (pe_callB (r := rIsi K) call_isi (by rfl) T.n_isinstance (by decide +kernel) (pa_cons (pv 0) (pa_cons (pe_bltn (v := .ty "bool") rfl T.n_bool (by decide +kernel) rfl) pa_nil)))) (pe_one (pe_cmpR op_eq (pv 0) (pv 1) (nomark _))))))) pss_nil)
      pss_never)))), ?_⟩
  obtain ⟨G0, ds, P, k, r, ⟨d, pl, rfl, rfl⟩, q⟩ := h
  have S := S4.start (N := N_law_like) k r
  cases d with
  | non => exact q_when (b_Bx (v_isNx (v_var rfl))) S (fun _ G H S => g_ret (P := (· = .bl true)) (EvX.to (v_isNx (v_var (d := .non) rfl)) rfl) S q) (fun e => nomatch e)
  | bl b =>
    refine q_when (b_Bx (v_isNx (v_var rfl))) S (fun e => nomatch e) fun _ G H S => ?_
    refine q_when (like_scal (d := (.bl b)) (c := true) rfl rfl kb_bool_bool) S (fun _ G H S => ?_) (fun e => nomatch e)
    exact g_ret (EvX.to (v_andx (v_is (d := (.bl b)) (c := true) rfl rfl kb_bool_bool) fun _ => v_eqB (v_var rfl) (v_var rfl)) (by simp)) S q
  | str x =>
    refine q_when (b_Bx (v_isNx (v_var rfl))) S (fun e => nomatch e) fun _ G H S => ?_
    refine q_when (like_scal (d := (.str x)) (c := false) rfl rfl kb_str_bool) S (fun e => nomatch e) fun _ G H S => ?_
    refine q_when (like_scal (d := (.str x)) (c := true) rfl rfl kb_str_str) S (fun _ G H S => ?_) (fun e => nomatch e)
    exact g_ret (EvX.to (v_andx (v_is (d := (.str x)) (c := true) rfl rfl kb_str_str) fun _ => v_eqS (v_var rfl) (v_var rfl)) (by simp)) S q
  | int i =>
    refine q_when (b_Bx (v_isNx (v_var rfl))) S (fun e => nomatch e) fun _ G H S => ?_
    refine q_when (like_scal (d := (.int i)) (c := false) rfl rfl kb_int_bool) S (fun e => nomatch e) fun _ G H S => ?_
    refine q_when (like_scal (d := (.int i)) (c := false) rfl rfl kb_int_str) S (fun e => nomatch e) fun _ G H S => ?_
    refine q_when (like_scal (d := (.int i)) (c := true) rfl rfl kb_int_int) S (fun _ G H S => ?_) (fun e => nomatch e)
    exact g_ret (EvX.to (v_andx (v_is (d := (.int i)) (c := true) rfl rfl kb_int_int) fun _ => v_andx (v_notx (v_is (d := (.int i)) (c := false) rfl rfl kb_int_bool)) fun _ => v_eqI (v_var rfl) (v_var rfl)) (by simp)) S q
  | _ => simp [Pl] at pl
theorem ok_likeS {n : Nat} (D : Df K mg "_law_like" s_law_like) (T : Txt K mg C_Tags C_InvalidMachine C_TooLarge) (c_law_like : C8.Cal P w K mg base (n + 1) "_law_like" (spOf Wd0 K (A_like n)) []) : C8.Cal P w K mg base (n + 2) "_law_like" (spOf Wd0 K (A_like (n + 1))) [] := by
  refine cal_of D (fun _ _ _ _ _ _ us hl => match us, hl with | [_, _], _ => rfl) sc_law_like (spOf_len (n := 2) fun _ _ ⟨_, _, e, _⟩ => by rw [e]; rfl) fun f cdv A outer s H0 vs Q E hr h => ⟨_, (pss_cons (ps_if (pt_cmp (pc_isN (pv 1))) (pss_one (ps_ret (pe_cmp (pc_isN (pv 0))))) pss_nil)
      (pss_cons (ps_if (pt_val (pe_callB (r := rIsi K) call_isi (by rfl) T.n_isinstance (by decide +kernel) (pa_cons (pv 1) (pa_cons (pe_bltn (v := .ty "bool") rfl T.n_bool (by decide +kernel) rfl) pa_nil)))) (pss_one (ps_ret (pe_and (pe_callB (r := rIsi K) call_isi (by rfl) T.n_isinstance (by decide +kernel) (pa_cons (pv 0) (pa_cons (pe_bltn (v := .ty "bool") rfl T.n_bool (by decide +kernel) rfl) pa_nil))) (pe_one (pe_cmpR op_eq (pv 0) (pv 1) (nomark _)))))) pss_nil)
      (pss_cons (ps_if (pt_val (pe_callB (r := rIsi K) call_isi (by rfl) T.n_isinstance (by decide +kernel) (pa_cons (pv 1) (pa_cons (pe_bltn (v := .ty "str") rfl T.n_str (by decide +kernel) rfl) pa_nil)))) (pss_one (ps_ret (pe_and (pe_callB (r := rIsi K) call_isi (by rfl) T.n_isinstance (by decide +kernel) (pa_cons (pv 0) (pa_cons (pe_bltn (v := .ty "str") rfl T.n_str (by decide +kernel) rfl) pa_nil))) (pe_one (pe_cmpR op_eq (pv 0) (pv 1) (nomark _)))))) pss_nil)
      (pss_cons (ps_if (pt_val (pe_callB (r := rIsi K) call_isi (by rfl) T.n_isinstance (by decide +kernel) (pa_cons (pv 1) (pa_cons (pe_bltn (v := .ty "int") rfl T.n_int (by decide +kernel) rfl) pa_nil)))) (pss_one (ps_ret (pe_and (pe_callB (r := rIsi K) call_isi (by rfl) T.n_isinstance (by decide +kernel) (pa_cons (pv 0) (pa_cons (pe_bltn (v := .ty "int") rfl T.n_int (by decide +kernel) rfl) pa_nil))) (pe_and (pe_not (pe_callB (r := rIsi K) call_isi (by rfl) T.n_isinstance (by decide +kernel) (pa_cons (pv 0) (pa_cons (pe_bltn (v := .ty "bool") rfl T.n_bool (by decide +kernel) rfl) pa_nil)))) (pe_one (pe_cmpR op_eq (pv 0) (pv 1) (nomark _))))))) pss_nil)
      (pss_cons (ps_if (PW.pt (pw_or (pt_cmpR op_ne (pe_callB (r := rIsi K) call_isi (by rfl) T.n_isinstance (by decide +kernel) (pa_cons (pv 1) (pa_cons (pe_bltn (v := .ty "list") rfl T.n_list (by decide +kernel) rfl) pa_nil))) (pe_callB (r := rIsi K) call_isi (by rfl) T.n_isinstance (by decide +kernel) (pa_cons (pv 0) (pa_cons (pe_bltn (v := .ty "list") rfl T.n_list (by decide +kernel) rfl) pa_nil))) (nomark _)) (pw_or1 (pt_cmpR op_ne (pe_callB (r := rIsi K) call_isi (by rfl) T.n_isinstance (by decide +kernel) (pa_cons (pv 1) (pa_cons (pe_bltn (v := .ty "tuple") rfl T.n_tuple (by decide +kernel) rfl) pa_nil))) (pe_callB (r := rIsi K) call_isi (by rfl) T.n_isinstance (by decide +kernel) (pa_cons (pv 0) (pa_cons (pe_bltn (v := .ty "tuple") rfl T.n_tuple (by decide +kernel) rfl) pa_nil))) (nomark _))))) (pss_one (ps_ret pe_bl)) pss_nil)
      (pss_cons (ps_if (pt_cmpR op_ne (pe_callB (r := Ly.rLen K) call_len_seq (by rfl) T.n_len PySem.boot_len (pa_cons (pv 0) pa_nil)) (pe_callB (r := Ly.rLen K) call_len_seq (by rfl) T.n_len PySem.boot_len (pa_cons (pv 1) pa_nil)) (nomark _)) (pss_one (ps_ret pe_bl)) pss_nil)
      (pss_one (ps_ret (pe_callB (r := rAll K) (cr_all rfl) (by rfl) T.n_all (by decide +kernel) (pa_cons (pe_lc (own := [("k", 2)]) (g := gName 2) (tt := tYes) rfl sc_law_like.nd (pi_range1 rfl T.n_range (pa_cons (pe_callB (r := Ly.rLen K) call_len_seq (by rfl) T.n_len PySem.boot_len (pa_cons (pv 1) pa_nil)) pa_nil)) (blkOk_by (N := N_law_like) (sc := defScope s_law_like) (by decide +kernel)) (fun _ _ _ _ _ => pg_name (i := 2) sc_law_like.nd rfl (Or.inl rfl)) (fun _ _ _ _ _ => pts_nil) (fun _ _ _ _ _ => (C8.pe_c c_law_like hr (Nat.le_refl _) rfl (pa_cons (pe_ix (r := rIx K) ix_seq (pv 0) (pv 2) (fun _ _ => rfl)) (pa_cons (pe_ix (r := rIx K) ix_seq (pv 1) (pv 2) (fun _ _ => rfl)) pa_nil))))) pa_nil)))))))))), ?_⟩
  obtain ⟨G0, ds, P, k, r, ⟨d, pl, rfl, rfl⟩, q⟩ := h
  have S := S4.start (N := N_law_like) k r
  cases d with
  | non => exact q_when (b_Bx (v_isNx (v_var rfl))) S (fun _ G H S => g_ret (P := (· = .bl true)) (EvX.to (v_isNx (v_var (d := .non) rfl)) rfl) S q) (fun e => nomatch e)
  | bl b =>
    refine q_when (b_Bx (v_isNx (v_var rfl))) S (fun e => nomatch e) fun _ G H S => ?_
    refine q_when (like_scal (d := (.bl b)) (c := true) rfl rfl kb_bool_bool) S (fun _ G H S => ?_) (fun e => nomatch e)
    exact g_ret (EvX.to (v_andx (v_is (d := (.bl b)) (c := true) rfl rfl kb_bool_bool) fun _ => v_eqB (v_var rfl) (v_var rfl)) (by simp)) S q
  | str x =>
    refine q_when (b_Bx (v_isNx (v_var rfl))) S (fun e => nomatch e) fun _ G H S => ?_
    refine q_when (like_scal (d := (.str x)) (c := false) rfl rfl kb_str_bool) S (fun e => nomatch e) fun _ G H S => ?_
    refine q_when (like_scal (d := (.str x)) (c := true) rfl rfl kb_str_str) S (fun _ G H S => ?_) (fun e => nomatch e)
    exact g_ret (EvX.to (v_andx (v_is (d := (.str x)) (c := true) rfl rfl kb_str_str) fun _ => v_eqS (v_var rfl) (v_var rfl)) (by simp)) S q
  | int i =>
    refine q_when (b_Bx (v_isNx (v_var rfl))) S (fun e => nomatch e) fun _ G H S => ?_
    refine q_when (like_scal (d := (.int i)) (c := false) rfl rfl kb_int_bool) S (fun e => nomatch e) fun _ G H S => ?_
    refine q_when (like_scal (d := (.int i)) (c := false) rfl rfl kb_int_str) S (fun e => nomatch e) fun _ G H S => ?_
    refine q_when (like_scal (d := (.int i)) (c := true) rfl rfl kb_int_int) S (fun _ G H S => ?_) (fun e => nomatch e)
    exact g_ret (EvX.to (v_andx (v_is (d := (.int i)) (c := true) rfl rfl kb_int_int) fun _ => v_andx (v_notx (v_is (d := (.int i)) (c := false) rfl rfl kb_int_bool)) fun _ => v_eqI (v_var rfl) (v_var rfl)) (by simp)) S q
  | adr a => cases n <;> simp [Pl] at pl
  | obj a b => cases n <;> simp [Pl] at pl
  | dct a => cases n <;> simp [Pl] at pl
  | tup es =>
    rw [Pl] at pl
    refine q_when (b_Bx (v_isNx (v_var rfl))) S (fun e => nomatch e) fun _ G H S => ?_
    refine q_when (like_scal (d := (.tup es)) (c := false) rfl rfl kb_tuple_bool) S (fun e => nomatch e) fun _ G H S => ?_
    refine q_when (like_scal (d := (.tup es)) (c := false) rfl rfl kb_tuple_str) S (fun e => nomatch e) fun _ G H S => ?_
    refine q_when (like_scal (d := (.tup es)) (c := false) rfl rfl kb_tuple_int) S (fun e => nomatch e) fun _ G H S => ?_
    refine q_when (EvBX.to (b_orx (b_testx (v_neB (v_is (d := (.tup es)) (c := false) rfl rfl kb_tuple_list) (v_is (d := (.tup es)) (c := false) rfl rfl kb_tuple_list))) fun _ => b_testx (v_neB (v_is (d := (.tup es)) (c := true) rfl rfl kb_tuple_tuple) (v_is (d := (.tup es)) (c := true) rfl rfl kb_tuple_tuple))) (b := false) (by simp)) S (fun e => nomatch e) fun _ G H S => ?_
    refine q_when (EvBX.to (b_testx (v_neI (v_lenT (v_var rfl)) (v_lenT (v_var rfl)))) (b := false) (by simp)) S (fun e => nomatch e) fun _ G H S => ?_
    refine g_ret (P := (· = .bl true)) ?_ S q
    refine EvX.to (v_all (bs := List.replicate es.length true) (EvN.evx (R := (· = (List.replicate es.length true).map Dat.bl)) (n_lcR (fun _ i ds => ds = List.replicate i (.bl true)) (EvA.imp (a_consx (v_lenT (v_var rfl)) a_nil) fun ds e => ⟨_, e, ⟨by omega, by have := pl.1; omega⟩, rfl, fun i hi => ?_, fun ds e => by rw [e, List.map_replicate, Int.toNat_natCast]⟩)) fun ds e => e)) (by simp)
    have hlt : i < es.length := by omega
    have hx : es[i]? = some es[i] := List.getElem?_eq_getElem hlt
    refine tn_each (fun ds e => by rw [e, List.length_replicate]; have := pl.1; omega) fun ds e => ?_
    refine Ev.imp (v_call0x (P := (· = .bl true)) (a_consx (v_ixDT (v_var rfl) (v_var rfl) rfl hx) (a_consx (v_ixDT (v_var rfl) (v_var rfl) rfl hx) a_nil)) ⟨es[i], pl.2.get hx, rfl, rfl⟩) fun d ed => ?_
    rw [e, ed, List.replicate_succ']
  | lst es =>
    rw [Pl] at pl
    refine q_when (b_Bx (v_isNx (v_var rfl))) S (fun e => nomatch e) fun _ G H S => ?_
    refine q_when (like_scal (d := (.lst es)) (c := false) rfl rfl kb_list_bool) S (fun e => nomatch e) fun _ G H S => ?_
    refine q_when (like_scal (d := (.lst es)) (c := false) rfl rfl kb_list_str) S (fun e => nomatch e) fun _ G H S => ?_
    refine q_when (like_scal (d := (.lst es)) (c := false) rfl rfl kb_list_int) S (fun e => nomatch e) fun _ G H S => ?_
    refine q_when (EvBX.to (b_orx (b_testx (v_neB (v_is (d := (.lst es)) (c := true) rfl rfl kb_list_list) (v_is (d := (.lst es)) (c := true) rfl rfl kb_list_list))) fun _ => b_testx (v_neB (v_is (d := (.lst es)) (c := false) rfl rfl kb_list_tuple) (v_is (d := (.lst es)) (c := false) rfl rfl kb_list_tuple))) (b := false) (by simp)) S (fun e => nomatch e) fun _ G H S => ?_
    refine q_when (EvBX.to (b_testx (v_neI (v_lenL (v_var rfl)) (v_lenL (v_var rfl)))) (b := false) (by simp)) S (fun e => nomatch e) fun _ G H S => ?_
    refine g_ret (P := (· = .bl true)) ?_ S q
    refine EvX.to (v_all (bs := List.replicate es.length true) (EvN.evx (R := (· = (List.replicate es.length true).map Dat.bl)) (n_lcR (fun _ i ds => ds = List.replicate i (.bl true)) (EvA.imp (a_consx (v_lenL (v_var rfl)) a_nil) fun ds e => ⟨_, e, ⟨by omega, by have := pl.1; omega⟩, rfl, fun i hi => ?_, fun ds e => by rw [e, List.map_replicate, Int.toNat_natCast]⟩)) fun ds e => e)) (by simp)
    have hlt : i < es.length := by omega
    have hx : es[i]? = some es[i] := List.getElem?_eq_getElem hlt
    refine tn_each (fun ds e => by rw [e, List.length_replicate]; have := pl.1; omega) fun ds e => ?_
    refine Ev.imp (v_call0x (P := (· = .bl true)) (a_consx (v_ixDL (v_var rfl) (v_var rfl) rfl hx) (a_consx (v_ixDL (v_var rfl) (v_var rfl) rfl hx) a_nil)) ⟨es[i], pl.2.get hx, rfl, rfl⟩) fun d ed => ?_
    rw [e, ed, List.replicate_succ']
theorem ok_like (D : Df K mg "_law_like" s_law_like) (T : Txt K mg C_Tags C_InvalidMachine C_TooLarge) : ∀ n, C8.Cal P w K mg base (n + 1) "_law_like" (spOf Wd0 K (A_like n)) []
  | 0 => ok_like0 D T
  | n + 1 => ok_likeS D T (ok_like D T n)

theorem ok_pool (D : Df K mg "_law_pool" s_law_pool) (T : Txt K mg C_Tags C_InvalidMachine C_TooLarge) : C8.Cal P w K mg base 1 "_law_pool" (spPool K) [] := by
  refine cal_of D (fun _ _ _ _ _ _ us hl => match us, hl with | [_], _ => rfl) sc_law_pool (fun vs H Q E ⟨_, _, _, r, _⟩ => r.length) fun f cdv A outer s H0 vs Q E hr h => ⟨_, (pss_cons (ps_set (i := 1) sc_law_pool.nd rfl (by first | exact Or.inl rfl | exact Or.inr rfl) pe_int)
      (pss_cons (ps_for PassesOwn.never rfl (pi_list (pe_slice (r := rSlL K) sl_list (pv 0) po_none (po_some pe_int))) (pg_name (i := 2) sc_law_pool.nd rfl (by first | exact Or.inl rfl | exact Or.inr rfl))
        (pss_one (ps_set (i := 1) sc_law_pool.nd rfl (by first | exact Or.inl rfl | exact Or.inr rfl) (pe_op op_mod (pe_callTy call_int1 (by rfl) T.n_int (by decide +kernel) (pa_cons (pe_op op_add (pe_op op_mul (pv 1) pe_int) (pv 2)) pa_nil)) pe_int))))
      (pss_one (ps_ret (pe_lst (pa_cons (pe_callTy call_list_of (by rfl) T.n_list (by decide +kernel) (pa_cons (pv 0) pa_nil)) (pa_cons pe_int (pa_cons pe_int (pa_cons pe_int (pa_cons (pv 1) pa_nil)))))))))), ?_⟩
  obtain ⟨G0, ns, k, r, hl, q⟩ := h
  have S := S4.start (N := N_law_pool) k r
  refine q_setx v_int S fun σ G H S => ?_
  refine q_forL (n_slL (v_var rfl) o_none (o_some v_int)) S (fun i Γ O => O = [] ∧ ∃ z s, Γ = [some (.lst (dI ns)), some (.int s), z]) ⟨rfl, none, 7, rfl⟩ ?_ ?_
  · rintro G1 i d Γ O σ G H hd ⟨rfl, z, s, rfl⟩ S
    obtain ⟨x, rfl⟩ : ∃ x, d = .int x := by
      have hm : d ∈ cutD (dI ns) none (some 63) := List.mem_of_getElem? hd
      have hm2 : d ∈ dI ns := List.mem_of_mem_drop (List.mem_of_mem_take hm)
      obtain ⟨x, _, e⟩ := List.mem_map.mp hm2
      exact ⟨x, e.symm⟩
    refine g_setx (v_mod (v_int1 (v_add (v_mul (v_var rfl) v_int (.inr ⟨by omega, by omega⟩)) (v_var rfl))) v_int (by omega)) S fun σ G H S => ⟨_, _, _, ⟨rfl, some (.int x), _, rfl⟩, S⟩
  · rintro Γ O σ G H ⟨rfl, z, s, rfl⟩ S
    refine n_listL (K := K) (ta := tVar 0) (v_var (i := 0) (d := .lst (dI ns)) rfl) σ G H S.env S.ok (fun x H1 => (tCons (tC (.int 0)) (tCons (tC (.int 0)) (tCons (tC (.int 0)) (tCons (tVar 1) tNil)))) σ H1 fun xs H2 => (x :: xs).length ≤ sizeLine ∧ ∀ p, H2 p = none → Q (.ref p) (upd H2 p (.lst (x :: xs)))) fun c xs ds G2 H2 st h0 g2 h2 r e => ?_
    subst e
    have S2 := S.step st
    have ex : xs = ns.map V.int := r.ints
    subst ex
    refine v_var (K := K) (d := .int s) (i := 1) rfl σ G2 H2 S2.env S2.ok (fun x H2 => [V.ref c, .int 0, .int 0, .int 0, x].length ≤ sizeLine ∧ ∀ p, H2 p = none → Q (.ref p) (upd H2 p (.lst [V.ref c, .int 0, .int 0, .int 0, x]))) fun v d G3 H3 st3 e r3 => ?_
    subst e
    cases r3
    have S3 := S2.step st3
    have h3 := st3.ex0 _ _ h2
    refine ⟨by show 5 ≤ sizeLine; decide, fun p hp => ?_⟩
    have npc : p ≠ c := fun e => by
      rw [e, h3] at hp
      cases hp
    refine q p c _ (fun a o ha => ?_) ((back S3.stp hp).1) ((back S.stp h0).1) ⟨npc, by rw [upd_ne (Ne.symm npc)]; exact h3, 0, 0, 0, s, by omega, upd_same⟩
    have h4 := S3.stp.ex0 a o ha
    rw [upd_ne (ne_of_none h4 hp)]
    exact h4
theorem ok_spread (D : Df K mg "_law_spread" s_law_spread) (T : Txt K mg C_Tags C_InvalidMachine C_TooLarge) : C8.Cal P w K mg base 1 "_law_spread" (spOf Wd0 K A_spread) [] := by
  refine cal_of D (fun _ _ _ _ _ _ us hl => match us, hl with | [_], _ => rfl) sc_law_spread (spOf_len (n := 1) fun _ _ ⟨_, e, _⟩ => by rw [e]; rfl) fun f cdv A outer s H0 vs Q E hr h => ⟨_, (pss_cons (ps_set (i := 1) sc_law_spread.nd rfl (by first | exact Or.inl rfl | exact Or.inr rfl) (pe_op op_mod (pe_callTy call_int1 (by rfl) T.n_int (by decide +kernel) (pa_cons (pv 0) pa_nil)) pe_int))
      (pss_cons (ps_set (i := 2) sc_law_spread.nd rfl (by first | exact Or.inl rfl | exact Or.inr rfl) pe_int)
      (pss_cons (ps_for PassesOwn.never rfl (pi_range1 rfl T.n_range (pa_cons pe_int pa_nil)) (pg_name (i := 3) sc_law_spread.nd rfl (by first | exact Or.inl rfl | exact Or.inr rfl))
        (pss_cons (ps_set (i := 1) sc_law_spread.nd rfl (by first | exact Or.inl rfl | exact Or.inr rfl) (pe_op op_mod (pe_callTy call_int1 (by rfl) T.n_int (by decide +kernel) (pa_cons (pe_op op_add (pe_op op_add (pe_op op_mul (pv 1) pe_int) pe_int) (pv 3)) pa_nil)) pe_int))
      (pss_one (ps_set (i := 2) sc_law_spread.nd rfl (by first | exact Or.inl rfl | exact Or.inr rfl) (pe_op op_add (pe_op op_mul (pv 2) pe_int) (pv 1))))))
      (pss_one (ps_ret (pv 2)))))), ?_⟩
  obtain ⟨G0, ds, P, k, r, ⟨x, rfl, rfl⟩, q⟩ := h
  have S := S4.start (N := N_law_spread) k r
  refine q_setx (v_mod (v_int1 (v_var rfl)) v_int (by omega)) S fun σ G H S => ?_
  refine q_setx v_int S fun σ G H S => ?_
  refine q_for1 (a_consx v_int a_nil) (by omega) S (fun i Γ O => O = [] ∧ ∃ m t z, Γ = [some (.int x), some (.int m), some (.int t), z]) ⟨rfl, _, _, none, rfl⟩ ?_ ?_ (by omega)
  · rintro i Γ O σ G H hi ⟨rfl, m, t, z, rfl⟩ S
    refine q_setx (v_mod (v_int1 (v_add (v_add (v_mul (v_var rfl) v_int (.inr ⟨by omega, by omega⟩)) v_int) (v_var rfl))) v_int (by omega)) S fun σ G H S => ?_
    refine g_setx (v_add (v_mul (v_var rfl) v_int (.inr ⟨by omega, by omega⟩)) (v_var rfl)) S fun σ G H S => ⟨_, _, _, ⟨rfl, _, _, some (.int (i : Int)), rfl⟩, S⟩
  · rintro Γ O σ G H ⟨rfl, m, t, z, rfl⟩ S
    exact g_ret (EvX.any (v_var rfl) ⟨t, rfl⟩) S q
theorem ok_draw (D : Df K mg "_law_draw" s_law_draw) (T : Txt K mg C_Tags C_InvalidMachine C_TooLarge) (c_law_spread : C8.Cal P w K mg base 1 "_law_spread" (spOf Wd0 K A_spread) []) : C8.Cal P w K mg base 2 "_law_draw" (spDraw K) [] := by
  refine cal_of D (fun _ _ _ _ _ _ us hl => match us, hl with | [_, _], _ => rfl) sc_law_draw (fun vs H Q E ⟨_, _, _, _, _, _, _, r, ⟨_, _, _, e, _⟩, _⟩ => by rw [r.length, e]; rfl) fun f cdv A outer s H0 vs Q E hr h => ⟨_, (Evl.pss_cut (ps_if (PW.pt (pw_and (pt_cmpR op_le (pe_ix (r := rIxL K) ix_list (pv 0) pe_int (fun _ _ => rfl)) pe_int (nomark _)) (pw_and1 (pt_cmpR op_lt (pe_ix (r := rIxL K) ix_list (pv 0) pe_int (fun _ _ => rfl)) (pe_callB (r := Ly.rLen K) call_len_seq (by rfl) T.n_len PySem.boot_len (pa_cons (pe_ix (r := rIxL K) ix_list (pv 0) pe_int (fun _ _ => rfl)) pa_nil)) (nomark _))))) (pss_cons (ps_set (i := 2) sc_law_draw.nd rfl (by first | exact Or.inl rfl | exact Or.inr rfl) (pe_ix (r := rIxL K) ix_list (pe_ix (r := rIxL K) ix_list (pv 0) pe_int (fun _ _ => rfl)) (pe_ix (r := rIxL K) ix_list (pv 0) pe_int (fun _ _ => rfl)) (fun _ _ => rfl)))
      (pss_cons (ps_asg (pe_op op_add (pe_ix (r := rIxL K) ix_list (pv 0) pe_int (fun _ _ => rfl)) pe_int) (pg_sub (pv 0) pe_int set_list))
      (pss_cons (ps_asg (pv 2) (pg_sub (pv 0) pe_int set_list))
      (pss_one (ps_if (pt_cmpR op_lt (pv 2) pe_int (nomark _)) (pss_one (ps_asg (C8.pe_c c_law_spread hr (by decide) rfl (pa_cons (pv 2) pa_nil)) (pg_sub (pv 0) pe_int set_list))) pss_nil))))) pss_nil)
      (pss_cons (ps_asg (pe_op op_add (pe_ix (r := rIxL K) ix_list (pv 0) pe_int (fun _ _ => rfl)) pe_int) (pg_sub (pv 0) pe_int set_list))
      (pss_cons (ps_if (pt_cmpR op_le (pe_ix (r := rIxL K) ix_list (pv 0) pe_int (fun _ _ => rfl)) pe_int (nomark _)) (pss_cons (ps_set (i := 3) sc_law_draw.nd rfl (by first | exact Or.inl rfl | exact Or.inr rfl) (pe_op op_mod (pe_callTy call_int1 (by rfl) T.n_int (by decide +kernel) (pa_cons (pe_op op_add (pe_op op_add (pe_op op_mul (pe_ix (r := rIxL K) ix_list (pv 0) pe_int (fun _ _ => rfl)) pe_int) (pe_op op_mul (pe_ix (r := rIxL K) ix_list (pv 0) pe_int (fun _ _ => rfl)) pe_int)) pe_int) pa_nil)) pe_int))
      (pss_cons (ps_set (i := 3) sc_law_draw.nd rfl (by first | exact Or.inl rfl | exact Or.inr rfl) (pe_op op_mod (pe_callTy call_int1 (by rfl) T.n_int (by decide +kernel) (pa_cons (pe_op op_add (pe_op op_mul (pv 3) pe_int) (pe_ix (r := rIxL K) ix_list (pv 0) pe_int (fun _ _ => rfl))) pa_nil)) pe_int))
      (pss_one (ps_ret (pe_op op_mod (pe_op op_fdiv (pv 3) pe_int) (pv 1)))))) pss_nil)
      (pss_cons (ps_set (i := 4) sc_law_draw.nd rfl (by first | exact Or.inl rfl | exact Or.inr rfl) (pe_op op_mod (pe_callTy call_int1 (by rfl) T.n_int (by decide +kernel) (pa_cons (pe_ix (r := rIxL K) ix_list (pv 0) pe_int (fun _ _ => rfl)) pa_nil)) (pv 1)))
      (pss_cons (ps_asg (pe_op op_fdiv (pe_ix (r := rIxL K) ix_list (pv 0) pe_int (fun _ _ => rfl)) (pv 1)) (pg_sub (pv 0) pe_int set_list))
      (pss_one (ps_ret (pv 4)))))))), ?_⟩
  obtain ⟨p, c, ns, G0, ds, P, k, r, ⟨many, hm0, hm1, rfl, rfl⟩, q⟩ := h
  obtain ⟨i, z, kk, sl, hi0, S⟩ := q_of_p (S4.start (N := N_law_draw) k r)
  refine q_cut (fun σ H => ∃ i z kk sl G x, 0 ≤ i ∧ S4 (WQ p c ns i z kk sl) K G0 G0 H0 [some (.adr p), some (.int many), x, none, none] [] σ G H) ?_ ?_
  · refine g_if (b_andx (b_testx (v_le (v_pool (j := 2) (v_var rfl) rfl) v_int)) fun _ => b_testx (v_lt (v_pool (j := 1) (v_var rfl) rfl) (v_poolLen (v_pool (j := 0) (v_var rfl) rfl)))) S (fun e G H S => ?_) (fun _ G H S => ⟨i, z, kk, sl, G, none, hi0, S⟩)
    have hlt : i < ns.length := by
      have e2 := (Bool.and_eq_true_iff.mp e.symm).2
      exact of_decide_eq_true e2
    have hx : ns[i.toNat]? = some ns[i.toNat] := List.getElem?_eq_getElem (by omega)
    refine q_setx (v_poolAt (v_pool (j := 0) (v_var rfl) rfl) (v_pool (j := 1) (v_var rfl) rfl) hi0 hx) S fun σ G H S => ?_
    refine q_pool (j := 1) (v_add (v_pool (j := 1) (v_var rfl) rfl) v_int) (v_var rfl) S (by omega) rfl fun G H S => ?_
    refine q_pool (j := 2) (v_var rfl) (v_var rfl) S (by omega) rfl fun G H S => ?_
    refine g_if (b_testx (v_lt (v_var rfl) v_int)) S (fun e G H S => ?_) (fun _ G H S => ⟨i + 1, _, kk, sl, G, _, by omega, S⟩)
    refine g_poolP (j := 2) (v_call0x (a_consx (v_var rfl) a_nil) ⟨_, rfl, rfl⟩) (v_var rfl) S (by omega) fun x G H S => ⟨i + 1, x, kk, sl, G, _, by omega, S⟩
  · rintro σ H ⟨i, z, kk, sl, G, x, hi, S⟩
    refine q_pool (j := 3) (v_add (v_pool (j := 3) (v_var rfl) rfl) v_int) (v_var rfl) S (by omega) rfl fun G H S => ?_
    refine q_when (b_testx (v_le (v_pool (j := 2) (v_var rfl) rfl) v_int)) S (fun _ G H S => ?_) (fun _ G H S => ?_)
    · refine q_setx (v_mod (v_int1 (v_add (v_add (v_mul (v_pool (j := 4) (v_var rfl) rfl) v_int (.inr ⟨by omega, by omega⟩)) (v_mul (v_pool (j := 3) (v_var rfl) rfl) v_int (.inr ⟨by omega, by omega⟩))) v_int)) v_int (by omega)) S fun σ G H S => ?_
      refine q_setx (v_mod (v_int1 (v_add (v_mul (v_var rfl) v_int (.inr ⟨by omega, by omega⟩)) (v_pool (j := 3) (v_var rfl) rfl))) v_int (by omega)) S fun σ G H S => ?_
      refine g_ret (P := Drawn many) (EvX.any (v_mod (v_fdiv (v_var rfl) v_int ⟨by omega, by omega⟩) (v_var rfl) hm0) ⟨_, rfl, Int.emod_nonneg _ (by omega), Int.emod_lt_of_pos _ hm0⟩) S ?_
      exact fun v d G2 H2 st pd rd => q v d G2 H2 (p_of_q hi st) pd rd
    · refine q_setx (v_mod (v_int1 (v_pool (j := 2) (v_var rfl) rfl)) (v_var rfl) hm0) S fun σ G H S => ?_
      refine q_pool (j := 2) (v_fdiv (v_pool (j := 2) (v_var rfl) rfl) (v_var rfl) ⟨hm0, by omega⟩) (v_var rfl) S (by omega) rfl fun G H S => ?_
      refine g_ret (P := Drawn many) (EvX.any (v_var rfl) ⟨_, rfl, Int.emod_nonneg _ (by omega), Int.emod_lt_of_pos _ hm0⟩) S ?_
      exact fun v d G2 H2 st pd rd => q v d G2 H2 (p_of_q hi st) pd rd

end
def GoodP (m : Int) (o : Pr) : Prop := ∀ u, o = some u → u.length ≤ 4 ∧ InB m u
def IsPs (m : Int) (ps : List Pr) : Prop := (ps.length : Int) = m ∧ ∀ o ∈ ps, GoodP m o
def A_prod : Sig := fun ds P => ∃ (ns : List Int) (m : Int), InB 4096 ns ∧ ns.length = 40 ∧ 1 ≤ m ∧ m ≤ 5 ∧ ds = [.lst (dI ns), .int m] ∧ P = fun d => ∃ ps, d = .lst (prsD ps) ∧ IsPs m ps
def A_machine (p : Addr) : Sig := fun ds P => ds = [.adr p, .str "tags"] ∧ P = fun d => ∃ ps, d = .tup (prsD ps) ∧ ∃ m, 1 ≤ m ∧ m ≤ 5 ∧ IsPs m ps
def A_begin (p : Addr) : Sig := fun ds P => ∃ ps : List Pr, 1 ≤ ps.length ∧ ps.length ≤ 10 ∧ ds = [.adr p, .str "tags", .tup (prsD ps)] ∧ P = fun d => ∃ ws, d = .tup (dI ws) ∧ ws.length ≤ 6 ∧ InB ps.length ws
theorem prs_add (ps : List Pr) (o : Pr) : prsD (ps ++ [o]) = prsD ps ++ [prD o] := List.map_append ..
section
variable {P : Program} {w : World} {K : PySem.W.Frag} {mg : Str → Option Value} {base : Heap} {C_Tags C_InvalidMachine C_TooLarge : Addr}
theorem ok_some (D : Df K mg "_law_some" s_law_some) (T : Txt K mg C_Tags C_InvalidMachine C_TooLarge) (c_law_draw : C8.Cal P w K mg base 2 "_law_draw" (spDraw K) []) : C8.Cal P w K mg base 3 "_law_some" (spSome K) [] := by
  refine cal_of D (fun _ _ _ _ _ _ us hl => match us, hl with | [_, _], _ => rfl) sc_law_some (fun vs H Q E ⟨_, _, _, _, _, _, _, r, ⟨_, _, _, e, _⟩, _⟩ => by rw [r.length, e]; rfl) fun f cdv A outer s H0 vs Q E hr h => ⟨_, (pss_one (ps_ret (pe_lc (own := [("k", 2)]) (g := gName 2) (tt := tYes) rfl sc_law_some.nd (pi_range1 rfl T.n_range (pa_cons (pv 1) pa_nil)) (blkOk_by (N := N_law_some) (sc := defScope s_law_some) (by decide +kernel)) (fun _ _ _ _ _ => pg_name (i := 2) sc_law_some.nd rfl (Or.inl rfl)) (fun _ _ _ _ _ => pts_nil) (fun _ _ _ _ _ => (C8.pe_c c_law_draw hr (by decide) rfl (pa_cons (pv 0) (pa_cons pe_int pa_nil))))))), ?_⟩
  obtain ⟨p, c, ns, G0, ds, P, k, r, ⟨m, hm0, hm1, rfl, rfl⟩, q⟩ := h
  have S := S4.start (N := N_law_some) k r
  exact g_ret (EvN.ev (n_lcE (v_var rfl) hm0 (by omega) fun i => v_draw (v_var rfl) v_int (by omega) (by omega)) fun ds ⟨ns, e, hl, hi⟩ => ⟨ns, by rw [e], hl, hi⟩) S q
theorem ok_prod (D : Df K mg "_law_productions" s_law_productions) (T : Txt K mg C_Tags C_InvalidMachine C_TooLarge) : C8.Cal P w K mg base 1 "_law_productions" (spOf Wd0 K A_prod) [] := by
  refine cal_of D (fun _ _ _ _ _ _ us hl => match us, hl with | [_, _], _ => rfl) sc_law_productions (spOf_len (n := 2) fun _ _ ⟨_, _, _, _, _, _, e, _⟩ => by rw [e]; rfl) fun f cdv A outer s H0 vs Q E hr h => ⟨_, (pss_cons (ps_set (i := 2) sc_law_productions.nd rfl (by first | exact Or.inl rfl | exact Or.inr rfl) (pe_lst pa_nil))
      (pss_cons (ps_for PassesOwn.never rfl (pi_range1 rfl T.n_range (pa_cons (pv 1) pa_nil)) (pg_name (i := 3) sc_law_productions.nd rfl (by first | exact Or.inl rfl | exact Or.inr rfl))
        (pss_cons (ps_set (i := 4) sc_law_productions.nd rfl (by first | exact Or.inl rfl | exact Or.inr rfl) (pe_ix (r := rIxL K) ix_list (pv 0) (pv 3) (fun _ _ => rfl)))
      (pss_cons (ps_set (i := 5) sc_law_productions.nd rfl (by first | exact Or.inl rfl | exact Or.inr rfl) (pe_ix (r := rIxL K) ix_list (pe_lst (pa_cons pe_int (pa_cons pe_int (pa_cons pe_int (pa_cons pe_int (pa_cons pe_int (pa_cons pe_int (pa_cons pe_int (pa_cons pe_int pa_nil))))))))) (pe_op op_mod (pv 4) pe_int) (fun _ _ => rfl)))
      (pss_one (ps_if (pt_cmpR op_eq (pe_op op_mod (pe_op op_fdiv (pv 4) pe_int) pe_int) pe_int (nomark _)) (pss_one (ps_expr (pe_bm PySem.F.plainAttrs_list PySem.F.slot_list_append PySem.F.type_list_append mt_append (pv 2) (pa_cons pe_non pa_nil)))) (pss_one (ps_expr (pe_bm PySem.F.plainAttrs_list PySem.F.slot_list_append PySem.F.type_list_append mt_append (pv 2) (pa_cons (pe_tupleOf rfl T.n_tuple (pe_lc (own := [("j", 6)]) (g := gName 6) (tt := tYes) rfl sc_law_productions.nd (pi_range1 rfl T.n_range (pa_cons (pv 5) pa_nil)) (blkOk_by (N := N_law_productions) (sc := defScope s_law_productions) (by decide +kernel)) (fun _ _ _ _ _ => pg_name (i := 6) sc_law_productions.nd rfl (Or.inl rfl)) (fun _ _ _ _ _ => pts_nil) (fun _ _ _ _ _ => (pe_op op_mod (pe_op op_fdiv (pe_ix (r := rIxL K) ix_list (pv 0) (pe_op op_add (pe_op op_add (pv 3) pe_int) (pv 6)) (fun _ _ => rfl)) pe_int) (pv 1))))) pa_nil)))))))))
      (pss_one (ps_ret (pv 2))))), ?_⟩
  obtain ⟨G0, ds, P, k, r, ⟨ns, m, hi, hn, hm0, hm1, rfl, rfl⟩, q⟩ := h
  have S := S4.start (N := N_law_productions) k r
  refine q_setN (P := (· = [])) (n_lst a_nil fun ds e => by rw [e]; simp) S fun l ds σ G H e S => ?_
  subst e
  refine q_for1 (n := m) (a_consx (v_var rfl) a_nil) (by omega) S (fun i Γ O => ∃ (ps : List Pr) (z1 z2 z3 : Option Dat), O = [(l, prsD ps)] ∧ Γ = [some (.lst (dI ns)), some (.int m), some (.adr l), z1, z2, z3, none] ∧ ps.length = i ∧ ∀ o ∈ ps, GoodP m o) ⟨[], none, none, none, rfl, rfl, rfl, fun x h => nomatch h⟩ ?_ ?_ (by omega)
  · rintro i Γ O σ G H hlt ⟨ps, z1, z2, z3, rfl, rfl, hl, hx⟩ S
    obtain ⟨a, hd, ha⟩ := drawn_at hi (i := i) (by omega)
    refine q_setx (d := .int a) (v_ixL (ds := dI ns) (j := i) (v_var rfl) (v_var (d := .int (i : Int)) rfl) rfl (by rw [List.getElem?_map, hd]; rfl)) S fun σ G H S => ?_
    refine q_set (P := fun d => ∃ v, d = .int v ∧ 0 ≤ v ∧ v ≤ 4) (Ev.imp (v_pick (v_lstx (a_consx v_int (a_consx v_int (a_consx v_int (a_consx v_int (a_consx v_int (a_consx v_int (a_consx v_int (a_consx v_int a_nil)))))))) (by simp)) (v_rest (a := a) (m := 8) (v_var rfl) (by omega) v_int) rfl) fun d hd => ?_) S fun d σ G H ⟨sz, ed, s0, s4⟩ S => ?_
    · simp only [List.mem_cons, List.not_mem_nil, or_false] at hd
      rcases hd with rfl | rfl | rfl | rfl | rfl | rfl | rfl | rfl <;> exact ⟨_, rfl, by omega, by omega⟩
    subst ed
    have add : ∀ o, GoodP m o → ∀ y ∈ ps ++ [o], GoodP m y := fun x gx y hy => by
      rcases List.mem_append.mp hy with hy | hy
      · exact hx y hy
      · rw [List.mem_singleton.mp hy]
        exact gx
    have hsz : (prsD ps).length < 100000 := by rw [List.length_map]; omega
    refine g_if (b_testx (v_eqI (v_mod (v_fdiv (v_var (d := .int a) rfl) v_int ⟨by omega, by omega⟩) v_int (by omega)) v_int)) S (fun _ G H S => ?_) (fun _ G H S => ?_)
    · refine g_app (P := (· = .non)) (v_var rfl) v_non S hsz fun d G H hd S => ?_
      subst hd
      exact ⟨_, _, _, ⟨ps ++ [none], _, _, _, by rw [prs_add]; rfl, rfl, by rw [List.length_append, hl]; rfl, add none fun u e => nomatch e⟩, S⟩
    · refine g_app (P := fun d => ∃ u, d = .tup (dI u) ∧ u.length ≤ 4 ∧ InB m u) (v_var rfl) (v_tupleL (P := fun _ => True) (EvN.ev (n_lcB (b := m) (m := sz) (v_var rfl) s0 (by omega) fun j hj => ?_) fun ds ⟨u, e, hu, hb⟩ => ⟨ds, rfl, u, by rw [e], by omega, hb⟩)) S hsz fun d G H ⟨u, ed, hu, hb⟩ S => ?_
      · obtain ⟨b, hb, _⟩ := drawn_at hi (i := i + 7 + j) (by omega)
        exact v_part (a := b) (v_ixL (ds := dI ns) (j := i + 7 + j) (v_var rfl) (v_add (v_add (v_var (d := .int (i : Int)) rfl) v_int) (v_var (d := .int (j : Int)) rfl)) (by omega) (by rw [List.getElem?_map, hb]; rfl)) ⟨by omega, by omega⟩ (by omega) (v_var rfl)
      · subst ed
        exact ⟨_, _, _, ⟨ps ++ [some u], _, _, _, by rw [prs_add]; rfl, rfl, by rw [List.length_append, hl]; rfl, add (some u) fun v e => by cases e; exact ⟨hu, hb⟩⟩, S⟩
  · rintro Γ O σ G H ⟨ps, z1, z2, z3, rfl, rfl, hl, hx⟩ S
    obtain ⟨G, S⟩ := S4.keep (i := 2) rfl S
    exact g_ret (EvX.any (v_var (d := .lst (prsD ps)) (i := 2) rfl) ⟨ps, rfl, by omega, hx⟩) S q
theorem ok_machine (D : Df K mg "_law_machine" s_law_machine) (T : Txt K mg C_Tags C_InvalidMachine C_TooLarge) (c_law_some : C8.Cal P w K mg base 3 "_law_some" (spSome K) []) (c_law_productions : C8.Cal P w K mg base 1 "_law_productions" (spOf Wd0 K A_prod) []) : C8.Cal P w K mg base 4 "_law_machine" (spD K A_machine) [] := by
  refine cal_of D (fun _ _ _ _ _ _ us hl => match us, hl with | [_, _], _ => rfl) sc_law_machine (spD_len (n := 2) fun _ _ _ ⟨e, _⟩ => by rw [e]; rfl) fun f cdv A outer s H0 vs Q E hr h => ⟨_, (pss_cons (ps_set (i := 2) sc_law_machine.nd rfl (by first | exact Or.inl rfl | exact Or.inr rfl) (C8.pe_c c_law_some hr (by decide) rfl (pa_cons (pv 0) (pa_cons pe_int pa_nil))))
      (pss_cons (ps_if (pt_cmpR op_eq (pv 1) pe_str (nomark _)) pss_never pss_nil)
      (pss_cons (ps_if (pt_cmpR op_eq (pv 1) pe_str (nomark _)) pss_never pss_nil)
      (pss_cons (ps_if (pt_cmpR op_eq (pv 1) pe_str (nomark _)) pss_never pss_nil)
      (pss_cons (ps_if (pt_cmpR op_eq (pv 1) pe_str (nomark _)) (pss_one (ps_ret (pe_tupleOf rfl T.n_tuple (C8.pe_c c_law_productions hr (by decide) rfl (pa_cons (pv 2) (pa_cons (pe_op op_add pe_int (pe_op op_mod (pe_ix (r := rIxL K) ix_list (pv 2) pe_int (fun _ _ => rfl)) pe_int)) pa_nil)))))) pss_nil) pss_never))))), ?_⟩
  obtain ⟨p, c, ns, G0, ds, P, k, r, ⟨rfl, rfl⟩, q⟩ := h
  have S := S4.start (N := N_law_machine) k r
  refine q_set (v_some (v_var rfl) v_int (by omega) (by omega)) S fun d σ G H ⟨us, ed, hl, hi⟩ S => ?_
  subst ed
  obtain ⟨a, ha, _⟩ := drawn_at hi (i := 30) (by omega)
  refine q_when (b_testx (v_eqS (v_var rfl) v_str)) S (fun e => absurd e.symm (by decide)) (fun _ G H S => ?_)
  refine q_when (b_testx (v_eqS (v_var rfl) v_str)) S (fun e => absurd e.symm (by decide)) (fun _ G H S => ?_)
  refine q_when (b_testx (v_eqS (v_var rfl) v_str)) S (fun e => absurd e.symm (by decide)) (fun _ G H S => ?_)
  refine q_when (b_testx (v_eqS (v_var rfl) v_str)) S (fun _ G H S => ?_) (fun e => absurd e.symm (by decide))
  exact g_ret (v_tupleL (P := fun _ => True) (Ev.imp (v_call0x (a_consx (v_var rfl) (a_consx (d := .int (1 + a % 5)) (v_add v_int (v_mod (v_ixL (ds := dI us) (j := 30) (v_var rfl) v_int rfl (by rw [List.getElem?_map, ha]; rfl)) v_int (by omega))) a_nil)) ⟨us, 1 + a % 5, hi, by omega, by omega, by omega, rfl, rfl⟩) fun d ⟨ps, e, h⟩ => ⟨_, e, ps, rfl, 1 + a % 5, by omega, by omega, h⟩)) S q
theorem ok_begin (D : Df K mg "_law_begin" s_law_begin) (T : Txt K mg C_Tags C_InvalidMachine C_TooLarge) (c_law_some : C8.Cal P w K mg base 3 "_law_some" (spSome K) []) : C8.Cal P w K mg base 4 "_law_begin" (spD K A_begin) [] := by
  refine cal_of D (fun _ _ _ _ _ _ us hl => match us, hl with | [_, _, _], _ => rfl) sc_law_begin (spD_len (n := 3) fun _ _ _ ⟨_, _, _, e, _⟩ => by rw [e]; rfl) fun f cdv A outer s H0 vs Q E hr h => ⟨_, (pss_cons (ps_set (i := 3) sc_law_begin.nd rfl (by first | exact Or.inl rfl | exact Or.inr rfl) (C8.pe_c c_law_some hr (by decide) rfl (pa_cons (pv 0) (pa_cons pe_int pa_nil))))
      (pss_cons (ps_if (pt_cmpR op_eq (pv 1) pe_str (nomark _)) pss_never pss_nil)
      (pss_cons (ps_if (pt_cmpR op_eq (pv 1) pe_str (nomark _)) pss_never pss_nil)
      (pss_cons (ps_if (pt_cmpR op_eq (pv 1) pe_str (nomark _)) pss_never pss_nil)
      (pss_cons (ps_if (pt_cmpR op_eq (pv 1) pe_str (nomark _)) (pss_one (ps_ret (pe_tupleOf rfl T.n_tuple (pe_lc (own := [("k", 4)]) (g := gName 4) (tt := tYes) rfl sc_law_begin.nd (pi_range1 rfl T.n_range (pa_cons (pe_op op_mod (pe_ix (r := rIxL K) ix_list (pv 3) pe_int (fun _ _ => rfl)) pe_int) pa_nil)) (blkOk_by (N := N_law_begin) (sc := defScope s_law_begin) (by decide +kernel)) (fun _ _ _ _ _ => pg_name (i := 4) sc_law_begin.nd rfl (Or.inl rfl)) (fun _ _ _ _ _ => pts_nil) (fun _ _ _ _ _ => (pe_op op_mod (pe_ix (r := rIxL K) ix_list (pv 3) (pe_op op_add pe_int (pv 4)) (fun _ _ => rfl)) (pe_callB (r := Ly.rLen K) call_len_seq (by rfl) T.n_len PySem.boot_len (pa_cons (pv 2) pa_nil)))))))) pss_nil) pss_never))))), ?_⟩
  obtain ⟨p, c, ns, G0, ds, P, k, r, ⟨ps, hp1, hp2, rfl, rfl⟩, q⟩ := h
  have S := S4.start (N := N_law_begin) k r
  refine q_set (v_some (v_var rfl) v_int (by omega) (by omega)) S fun d σ G H ⟨us, ed, hl, hi⟩ S => ?_
  subst ed
  obtain ⟨a, ha, _⟩ := drawn_at hi (i := 0) (by omega)
  refine q_when (b_testx (v_eqS (v_var rfl) v_str)) S (fun e => absurd e.symm (by decide)) (fun _ G H S => ?_)
  refine q_when (b_testx (v_eqS (v_var rfl) v_str)) S (fun e => absurd e.symm (by decide)) (fun _ G H S => ?_)
  refine q_when (b_testx (v_eqS (v_var rfl) v_str)) S (fun e => absurd e.symm (by decide)) (fun _ G H S => ?_)
  refine q_when (b_testx (v_eqS (v_var rfl) v_str)) S (fun _ G H S => ?_) (fun e => absurd e.symm (by decide))
  refine g_ret (v_tupleL (P := fun _ => True) (EvN.ev (n_lcB (b := (ps.length : Int)) (m := a % 6) (v_mod (v_ixL (ds := dI us) (j := 0) (v_var rfl) v_int rfl (by rw [List.getElem?_map, ha]; rfl)) v_int (by omega)) (by omega) (by omega) fun j hj => ?_) fun ds ⟨u, e, hu, hb⟩ => ⟨ds, rfl, u, by rw [e], by omega, hb⟩)) S q
  obtain ⟨b, hb, _⟩ := drawn_at hi (i := 1 + j) (by omega)
  exact v_rest (a := b) (v_ixL (ds := dI us) (j := 1 + j) (v_var rfl) (v_add v_int (v_var (d := .int (j : Int)) rfl)) (by omega) (by rw [List.getElem?_map, hb]; rfl)) (by omega) (EvX.to (v_lenT (v_var (d := .tup (prsD ps)) rfl)) (by rw [List.length_map]))
end
end K08

set_option maxHeartbeats 4000000
namespace K08
open PySem L2 Ly
theorem nl_pr (o : Pr) : NL (prD o) := by
  cases o with
  | none => show NL .non; rw [NL]; trivial
  | some w => show NL (.tup (dI w)); rw [NL]; exact NLs.ints _
theorem nls_prs : ∀ ps : List Pr, NLs (prsD ps)
  | [] => by simp [NLs]
  | x :: xs => by
    show NLs (prD x :: prsD xs)
    rw [NLs]
    exact ⟨nl_pr x, nls_prs xs⟩
theorem prs_set (ps : List Pr) (j : Nat) (o : Pr) : (prsD ps).set j (prD o) = prsD (ps.set j o) := (List.map_set ..).symm
theorem wordOk_of {m : Int} {w : List Int} (h : InB m w) : wordOk m w = true := by
  unfold wordOk
  rw [List.all_eq_true]
  intro x hx
  have := h x hx
  simp [this.1, this.2]
theorem prOk_mono {m n : Int} (h : m ≤ n) {o : Pr} (hg : GoodP m o) : prOk n o = true := by
  cases o with
  | none => rfl
  | some w => exact wordOk_of fun x hx => ⟨((hg w rfl).2 x hx).1, by have := ((hg w rfl).2 x hx).2; omega⟩
theorem tagOk_of {m : Int} {ps : List Pr} (h : IsPs m ps) : tagOk ps = true := by
  unfold tagOk
  rw [List.all_eq_true]
  exact fun o ho => prOk_mono (by have := h.1; omega) (h.2 o ho)
theorem tagOk_bad {ps : List Pr} {o : Pr} (hm : o ∈ ps) (h : prOk ps.length o = false) : tagOk ps = false := by
  unfold tagOk
  rw [List.all_eq_false]
  exact ⟨o, hm, by rw [h]; simp⟩
theorem short_of {m : Int} {ps : List Pr} (h : IsPs m ps) (hm : m ≤ 100) : Short ps := ⟨by have := h.1; omega, fun w hw => by have := (h.2 _ hw w rfl).1; omega⟩
/-- what the law's fault has made of the drawn productions -/
structure Jn (b : Bool) (ps : List Pr) : Prop where
  sh : Short ps
  good : b = true → ∃ m, 1 ≤ m ∧ m ≤ 5 ∧ IsPs m ps
  bad : b = false → tagOk ps = false
theorem step_bounds {m : Int} {ps : List Pr} {ws us : List Int} (h : IsPs m ps) (hb : InB ps.length ws) (e : tagStep ps ws = some us) : InB ps.length us ∧ us.length ≤ ws.length + 4 := by
  match ws, hb, e with
  | [], _, e => cases e
  | [_], _, e => cases e
  | x :: y :: r, hb, e =>
    have hx := hb x List.mem_cons_self
    have hlt : x.toNat < ps.length := by omega
    have hg : ps[x.toNat]? = some ps[x.toNat] := List.getElem?_eq_getElem hlt
    generalize ps[x.toNat] = o at hg
    rw [tagStep_of hg] at e
    cases o with
    | none => cases e
    | some w =>
      cases e
      obtain ⟨h1, h2⟩ := h.2 _ (List.mem_of_getElem? hg) w rfl
      refine ⟨fun z hz => ?_, by simp; omega⟩
      rcases List.mem_append.mp hz with hz | hz
      · exact hb z (List.mem_cons_of_mem _ (List.mem_cons_of_mem _ hz))
      · rw [h.1]
        exact h2 z hz
section
variable {P : Program} {w : World} {K : PySem.W.Frag} {mg : Str → Option Value} {base : Heap} {C_Tags C_InvalidMachine C_TooLarge : Addr}
theorem ok_law {f : Addr} {fd : FuncData} (F : Fun K "law" "law" s_law f fd) (T : Txt K mg C_Tags C_InvalidMachine C_TooLarge) (c_Tags_init : MakS P w K mg base 2 "Tags" C_Tags (spInit K C_Tags C_InvalidMachine A_Tags))
    (c_Tags_eq : EqS P w K mg base 1 C_Tags (spOf Wd0 K (A_eq C_Tags))) (c_Tags_step : C8.Met P w K mg base 1 C_Tags "step" (spOf Wd0 K (A_step C_Tags)) []) (c_law_like : C8.Cal P w K mg base 4 "_law_like" (spOf Wd0 K (A_like 3)) []) (c_law_tags_step : C8.Cal P w K mg base 1 "_law_tags_step" (spOf Wd0 K A_lstep) [])
    (c_law_pool : C8.Cal P w K mg base 1 "_law_pool" (spPool K) []) (c_law_draw : C8.Cal P w K mg base 2 "_law_draw" (spDraw K) []) (c_law_machine : C8.Cal P w K mg base 4 "_law_machine" (spD K A_machine) []) (c_law_begin : C8.Cal P w K mg base 4 "_law_begin" (spD K A_begin) []) : FnOk P w K mg base CX0 6 f fd ["script"] (spLaw K) := by
  refine F.ok sc_law (fun vs H Q E ⟨_, _, e, _⟩ => by rw [e]; rfl) fun cdv A outer s H0 vs Q E hr h => ⟨_, (pss_cons (ps_set (i := 1) sc_law.nd rfl (by first | exact Or.inl rfl | exact Or.inr rfl) (C8.pe_c c_law_pool hr (by decide) rfl (pa_cons (pv 0) pa_nil)))
      (pss_cons (ps_set (i := 2) sc_law.nd rfl (by first | exact Or.inl rfl | exact Or.inr rfl) (pe_callTy call_list_of (by rfl) T.n_list (by decide +kernel) (pa_cons (C8.pe_c c_law_machine hr (by decide) rfl (pa_cons (pv 1) (pa_cons pe_str pa_nil))) pa_nil)))
      (pss_cons (ps_set (i := 3) sc_law.nd rfl (by first | exact Or.inl rfl | exact Or.inr rfl) pe_bl)
      (Evl.pss_cut (ps_if (pt_cmpR op_eq (C8.pe_c c_law_draw hr (by decide) rfl (pa_cons (pv 1) (pa_cons pe_int pa_nil))) pe_int (nomark _)) (pss_cons (ps_set (i := 4) sc_law.nd rfl (by first | exact Or.inl rfl | exact Or.inr rfl) (C8.pe_c c_law_draw hr (by decide) rfl (pa_cons (pv 1) (pa_cons (pe_callB (r := Ly.rLen K) call_len_seq (by rfl) T.n_len PySem.boot_len (pa_cons (pv 2) pa_nil)) pa_nil))))
      (pss_cons (ps_asg (pe_ix (r := rIxL K) ix_list (pe_lst (pa_cons (pe_tup (pa_cons (pe_callB (r := Ly.rLen K) call_len_seq (by rfl) T.n_len PySem.boot_len (pa_cons (pv 2) pa_nil)) pa_nil)) (pa_cons (pe_tup (pa_cons pe_int (pa_cons (pe_un un_neg pe_int) pa_nil))) (pa_cons (pe_tup (pa_cons pe_int (pa_cons (pe_op op_add (pe_callB (r := Ly.rLen K) call_len_seq (by rfl) T.n_len PySem.boot_len (pa_cons (pv 2) pa_nil)) pe_int) (pa_cons pe_int pa_nil)))) (pa_cons (pe_tup (pa_cons (pe_callB (r := Ly.rLen K) call_len_seq (by rfl) T.n_len PySem.boot_len (pa_cons (pv 2) pa_nil)) (pa_cons pe_int pa_nil))) pa_nil))))) (C8.pe_c c_law_draw hr (by decide) rfl (pa_cons (pv 1) (pa_cons pe_int pa_nil))) (fun _ _ => rfl)) (pg_sub (pv 2) (pv 4) set_list))
      (pss_one (ps_set (i := 3) sc_law.nd rfl (by first | exact Or.inl rfl | exact Or.inr rfl) pe_bl)))) pss_nil)
      (pss_cons (ps_set (i := 5) sc_law.nd rfl (by first | exact Or.inl rfl | exact Or.inr rfl) (pe_callTy call_list_of (by rfl) T.n_list (by decide +kernel) (pa_cons (pv 2) pa_nil)))
      (pss_cons (ps_try_as (i := 7) (tb := fun W => tAsg (tMakeS C_Tags (spInit K C_Tags C_InvalidMachine A_Tags) (WE W) (tCons (tVar 5) tNil)) (gName 6)) (ts := fun a cls d => tRet (tAndV (tNotV (tVar 3)) (tNotV (tCB (rIsE2 K C_InvalidMachine a cls d) (tCons (tVar 7) (tCons (tC (.ref C_TooLarge)) tNil)))))) (Wout := fun _ _ _ _ => False) rfl rfl sc_law.nd rfl rfl ⟨rfl, by decide, Or.inl T.g_InvalidMachine⟩ takes0
        (fun W pn xe tk _ => pss_one (ps_set (i := 6) sc_law.nd rfl (by first | exact Or.inl rfl | exact Or.inr rfl) (by exact (pe_mkS c_Tags_init hr (by decide) (fun σ => passAt tk σ) rfl (pa_cons (pv 5) pa_nil)))))
        (fun a oe cls d pn hz hf => (pss_one (ps_ret (pe_and (pe_not (pv 3)) (pe_one (pe_not (pe_callB (r := rIsE2 K C_InvalidMachine a cls d) (call_isE2 T.e_InvalidMachine.is hz hf) (by rfl) T.n_isinstance (by decide +kernel) (pa_cons (pv 7) (pa_cons (pe_glob (v := .ref C_TooLarge) rfl T.g_TooLarge rfl) pa_nil))))))))))
      (pss_cons (ps_expr (pe_bm PySem.F.plainAttrs_list PySem.F.slot_list_append PySem.F.type_list_append mt_append (pv 5) (pa_cons pe_non pa_nil)))
      (pss_cons (ps_if (PW.pt (pw_or (pt_not (pt_val (pv 3))) (pw_or (pt_not (pt_val (C8.pe_c c_law_like hr (by decide) rfl (pa_cons (pe_fld (pv 6) rfl) (pa_cons (pe_tupleOf rfl T.n_tuple (pv 2)) pa_nil))))) (pw_or (pt_cmpR (op_neS c_Tags_eq hr (by decide)) (pv 6) (pe_mkX c_Tags_init hr (by decide) rfl (pa_cons (pv 2) pa_nil)) (nomark _)) (pw_or1 (pt_cmpR (op_eqS c_Tags_eq hr (by decide)) (pv 6) (pe_mkX c_Tags_init hr (by decide) rfl (pa_cons (pe_op (r := rCatL K) op_catL (pv 2) (pe_lst (pa_cons pe_non pa_nil))) pa_nil)) (nomark _))))))) (pss_one (ps_ret pe_bl)) pss_nil)
      (pss_cons (ps_set (i := 8) sc_law.nd rfl (by first | exact Or.inl rfl | exact Or.inr rfl) (C8.pe_c c_law_begin hr (by decide) rfl (pa_cons (pv 1) (pa_cons pe_str (pa_cons (pe_tupleOf rfl T.n_tuple (pv 2)) pa_nil)))))
      (pss_cons (ps_for PassesOwn.never rfl (pi_range1 rfl T.n_range (pa_cons pe_int pa_nil)) (pg_name (i := 9) sc_law.nd rfl (by first | exact Or.inl rfl | exact Or.inr rfl))
        (pss_cons (ps_set (i := 10) sc_law.nd rfl (by first | exact Or.inl rfl | exact Or.inr rfl) (C8.pe_c c_law_tags_step hr (by decide) rfl (pa_cons (pv 2) (pa_cons (pv 8) pa_nil))))
      (pss_cons (ps_if (pt_not (pt_val (C8.pe_c c_law_like hr (by decide) rfl (pa_cons (C8.pe_mt c_Tags_step hr (by decide) (pv 6) (pa_cons (pv 8) pa_nil)) (pa_cons (pv 10) pa_nil))))) (pss_one (ps_ret pe_bl)) pss_nil)
      (pss_cons (ps_if (pt_cmp (pc_isN (pv 10))) (pss_one (ps_ret pe_bl)) pss_nil)
      (pss_one (ps_set (i := 8) sc_law.nd rfl (by first | exact Or.inl rfl | exact Or.inr rfl) (pv 10)))))))
      (pss_one (ps_ret pe_bl)))))))))))), ?_⟩
  obtain ⟨a, sc, e, hS, hl, q⟩ := h
  have S := law_start (N := N_law) e hS
  refine q_newpool (v_var rfl) hl S fun p c σ G0 H0 S => ?_
  have S := S4.weak (.drop (Wk.refl _)) S
  refine q_setN (P := fun ds => ∃ ps m, ds = prsD ps ∧ 1 ≤ m ∧ m ≤ 5 ∧ IsPs m ps) (n_listTP (Ev.imp (v_callD (P := fun d => ∃ ps, d = .tup (prsD ps) ∧ ∃ m, 1 ≤ m ∧ m ≤ 5 ∧ IsPs m ps) (a_consx (v_var rfl) (a_consx v_str a_nil)) fun ds e => ⟨e, rfl⟩) fun d ⟨ps, e, m, h⟩ => ⟨_, e, ps, m, rfl, h⟩)) S fun l ds σ G H ⟨ps, m, eds, hm1, hm5, hps⟩ S => ?_
  subst eds
  have hpm := hps.1
  refine q_setx v_bl S fun σ G H S => ?_
  refine q_cut (fun σ H => ∃ l b ps G, Jn b ps ∧ S4 (WP p c sc) K G0 G0 H0 [none, some (.adr p), some (.adr l), some (.bl b), none, none, none, none, none, none, none] [(l, prsD ps)] σ G H) ?_ ?_
  · refine g_if (b_drawnEq (v_draw (v_var rfl) v_int (by omega) (by omega)) v_int) S (fun _ G H S => ?_) (fun _ G H S => ⟨l, true, ps, G, ⟨short_of hps (by omega), fun _ => ⟨m, hm1, hm5, hps⟩, fun e => nomatch e⟩, S⟩)
    obtain ⟨Gk, S, back⟩ := S4.peek (i := 2) rfl (nls_prs ps) S
    refine q_setS (P := Drawn m) (v_draw (v_var rfl) (EvX.to (v_lenL (v_var (d := .lst (prsD ps)) rfl)) (congrArg Dat.int (by rw [List.length_map]; exact hpm))) (by omega) (by omega)) S fun v d G H ⟨at', ed, t0, t1⟩ S => ?_
    subst ed
    obtain ⟨G, S⟩ := back S (List.getElem?_set_ne (by decide)) (by simp [NLG, NL, NLs, NLf, nls_prs, setsG, N_law]) (fun _ _ h => nomatch h)
    refine q_putK (O := []) (i := 2) (m := m) (P := fun d => ∃ u, d = .tup (dI u) ∧ u.length ≤ 4 ∧ wordOk m u = false) rfl (nls_prs ps) (by simp [NLG, NL, NLs, NLf, nls_prs, setsG, N_law]) (fun _ _ h => nomatch h) (Ev.imp (v_pick (v_lstx (a_consx (d := .tup (dI [m])) (v_tupx (a_consx (EvX.to (v_lenL (v_var (d := .lst (prsD ps)) rfl)) (congrArg Dat.int (by rw [List.length_map]; exact hpm))) a_nil) (by simp)) (a_consx (d := .tup (dI [0, -1])) (v_tupx (a_consx v_int (a_consx (v_neg v_int) a_nil)) (by simp)) (a_consx (d := .tup (dI [0, m + 3, 0])) (v_tupx (a_consx v_int (a_consx (v_add (EvX.to (v_lenL (v_var (d := .lst (prsD ps)) rfl)) (congrArg Dat.int (by rw [List.length_map]; exact hpm))) v_int) (a_consx v_int a_nil))) (by simp)) (a_consx (d := .tup (dI [m, 0])) (v_tupx (a_consx (EvX.to (v_lenL (v_var (d := .lst (prsD ps)) rfl)) (congrArg Dat.int (by rw [List.length_map]; exact hpm))) (a_consx v_int a_nil)) (by simp)) a_nil)))) (by simp)) (v_draw (v_var rfl) v_int (by omega) (by omega)) rfl) fun d hd => ?_) (fun d ⟨u, e, _⟩ => by rw [e, NL]; exact NLs.ints _) (EvX.any (v_var (d := .int at') rfl) ⟨at', rfl, t0, t1⟩) (by rw [List.length_map]; exact hpm) S fun j d G H hj ⟨u, ed, hu, hb⟩ S => ?_
    · simp only [List.mem_cons, List.not_mem_nil, or_false] at hd
      rcases hd with rfl | rfl | rfl | rfl
      · exact ⟨[m], rfl, by simp, by simp [wordOk]⟩
      · exact ⟨[0, -1], rfl, by simp, by simp [wordOk]⟩
      · exact ⟨[0, m + 3, 0], rfl, by simp, by simp [wordOk]; omega⟩
      · exact ⟨[m, 0], rfl, by simp, by simp [wordOk]⟩
    · subst ed
      rw [show Dat.tup (dI u) = prD (some u) from rfl, prs_set] at S
      rw [List.length_map] at hj
      refine g_setx v_bl S fun σ G H S => ?_
      have sh := short_of hps (by omega)
      refine ⟨l, false, ps.set j (some u), G, ⟨⟨by rw [List.length_set]; exact sh.1, fun w hw => ?_⟩, (fun e => nomatch e), fun _ => tagOk_bad (List.mem_set hj (some u)) (by rw [List.length_set, hpm]; exact hb)⟩, S.weak (.keep (.keep (.keep (.keep (.drop (Wk.refl _))))))⟩
      rcases List.mem_or_eq_of_mem_set hw with h | h
      · exact sh.2 w h
      · cases h
        omega
  rintro σ H ⟨l, b, ps, G, J, S⟩
  obtain ⟨Gk, S, back1⟩ := S4.peek (i := 2) rfl (nls_prs ps) S
  refine q_setNS (n_listL (v_var (d := .lst (prsD ps)) rfl)) S fun l2 ds G H e S => ?_
  subst e
  have nlO : ∀ {x : Addr} k es, (k, es) ∈ [(x, prsD ps)] → NLs es := fun k es h => by
    rcases List.mem_singleton.mp h with ⟨⟩
    exact nls_prs ps
  obtain ⟨G, S⟩ := back1 S (List.getElem?_set_ne (by decide)) (by simp [NLG, NL, NLs, NLf, nls_prs, setsG, N_law]) nlO
  obtain ⟨Gk2, S, back2⟩ := S4.peek (i := 5) rfl (nls_prs ps) (S4.swap S)
  refine q_tryMakeS (ds := [.lst (prsD ps)]) (r := if tagOk ps = true then some (tagF ps) else none) (a_consx (v_var rfl) a_nil) ⟨ps, J.sh, rfl, rfl⟩ T.e_InvalidMachine.exm S (fun er a H2 D' eD => ?_) (fun fsd er v G H S => ?_)
  · have eb : b = false := by
      cases b with
      | false => rfl
      | true =>
        obtain ⟨m, _, _, h⟩ := J.good rfl
        rw [if_pos (tagOk_of h)] at er
        cases er
    subst eb
    obtain ⟨v3, h3, r3⟩ := S.env.at' 3 (.bl false) rfl
    cases r3
    have h10 : (σ.set 5 (some (V.ref l2))).length = 11 := S.env.len
    refine ⟨V.bl false, by rw [List.getElem?_set_ne (by decide)]; exact h3, false, rfl, true, rfl, ?_⟩
    rw [if_pos rfl]
    refine isE_run T.k_TL (List.getElem?_set_self (by omega)) ⟨false, rfl, ?_⟩
    rw [eD]
    exact q H2
  have ok : tagOk ps = true := by
    by_cases h : tagOk ps = true
    · exact h
    · rw [if_neg h] at er
      cases er
  rw [if_pos ok] at er
  cases er
  have eb : b = true := by
    cases b with
    | true => rfl
    | false =>
      rw [J.bad rfl] at ok
      cases ok
  subst eb
  obtain ⟨m, hm1, hm5, hps⟩ := J.good rfl
  have hpm := hps.1
  have sh := J.sh
  obtain ⟨G, S⟩ := back2 S (List.getElem?_set_ne (by decide)) (by simp [NLG, NL, NLs, NLf, nls_prs, setsG, N_law]) nlO
  refine q_app (P := fun _ => True) (v_var rfl) (Ev.imp v_non fun _ _ => trivial) S (by rw [List.length_map]; omega) fun d G H _ S => ?_
  have S := S4.drop S
  obtain ⟨G, S⟩ := S4.keep (i := 2) rfl S
  have sh2 : Short (ps ++ [none]) := ⟨by simp; omega, fun w hw => by
    rcases List.mem_append.mp hw with h | h
    · exact sh.2 w h
    · simp at h⟩
  have ok2 : tagOk (ps ++ [none]) = true := by
    unfold tagOk
    rw [List.all_eq_true]
    intro o ho
    rcases List.mem_append.mp ho with h | h
    · exact prOk_mono (by simp; omega) (hps.2 o h)
    · rw [List.mem_singleton.mp h]
      rfl
  refine q_when (EvBX.to (b_orx (a := false) (b := false) (EvBX.to (b_notx (a := true) (b_Bx (v_var (d := .bl true) rfl))) rfl) fun _ => EvBX.to (b_orx (a := false) (b := false) (b_like (n := 3) (d := .tup (prsD ps)) (v_fld (v_var rfl) T.cls T.na_productions rfl) (v_tupleLx (v_var rfl)) (Pl.up (pl_tag sh))) fun _ => EvBX.to (b_orx (a := false) (b := false) (b_testx (v_eqOwn (neg := true) (c := true) (v_var rfl) (v_make (a_consx (v_var rfl) a_nil) ⟨ps, sh, rfl, (if_pos ok).symm⟩) ⟨ps, ps, sh, sh, rfl, by simp⟩)) fun _ =>
    b_testx (v_eqOwn (neg := false) (c := false) (v_var rfl) (v_make (a_consx (EvN.evx (R := (· = prsD (ps ++ [none]))) (EvN.imp (n_catL (v_var (d := .lst (prsD ps)) rfl) (v_lstx (a_consx v_non a_nil) (by simp)) (by simp; omega)) fun ds e => by rw [e, prs_add]; rfl) fun ds e => e) a_nil) ⟨ps ++ [none], sh2, rfl, (if_pos ok2).symm⟩) ⟨ps, _, sh, sh2, rfl, by simp⟩)) rfl) rfl) rfl) S (fun e => nomatch e) fun _ G H S => ?_
  refine q_set (v_callD (P := fun d => ∃ ws, d = .tup (dI ws) ∧ ws.length ≤ 6 ∧ InB ps.length ws) (a_consx (v_var rfl) (a_consx v_str (a_consx (v_tupleLx (v_var (d := .lst (prsD ps)) rfl)) a_nil))) fun ds e => ⟨ps, by omega, by omega, e, rfl⟩) S fun d σ G H ⟨ws, ed, hw6, hwb⟩ S => ?_
  subst ed
  refine q_for1 (n := 10) (a_consx v_int a_nil) (by omega) S (fun i Γ O => O = [] ∧ ∃ ws z1 z2, Γ = [none, some (.adr p), some (.lst (prsD ps)), some (.bl true), none, some (.adr l2), some (.obj C_Tags (tagF ps)), none, some (.tup (dI ws)), z1, z2] ∧ ws.length ≤ 6 + 4 * i ∧ InB ps.length ws) ⟨rfl, ws, none, none, rfl, by omega, hwb⟩ ?_ ?_ (by omega)
  · rintro i Γ O σ G H hi ⟨rfl, ws, z1, z2, rfl, hwl, hwb⟩ S
    refine q_setx (d := prD (tagStep ps ws)) (v_call0x (a_consx (v_var (d := .lst (prsD ps)) rfl) (a_consx (v_var (d := .tup (dI ws)) rfl) a_nil)) ⟨ps, ws, sh, by omega, hwb, rfl, rfl⟩) S fun σ G H S => ?_
    refine q_when (b_like (n := 3) (v_meth0 (v_var (d := .obj C_Tags (tagF ps)) rfl) rfl (R := (· = [.tup (dI ws)])) (a_consx (v_var rfl) a_nil) fun ds e => ⟨ps, ws, sh, by omega, hwb, by rw [e], rfl⟩) (v_var (d := prD (tagStep ps ws)) rfl) (Pl.up (Pl.up (pl_pr fun us e => by have := (step_bounds hps hwb e).2; omega)))) S (fun e => nomatch e) fun _ G H S => ?_
    cases es : tagStep ps ws with
    | none =>
      rw [es] at S
      refine q_when (b_Bx (v_isNx (v_var (d := .non) rfl))) S (fun _ G H S => ?_) (fun e => nomatch e)
      exact g_ret v_bl S (go_true q)
    | some us =>
      rw [es] at S
      obtain ⟨hb2, hl2⟩ := step_bounds hps hwb es
      refine q_when (b_Bx (v_isNx (v_var (d := .tup (dI us)) rfl))) S (fun e => nomatch e) fun _ G H S => ?_
      refine g_setx (d := .tup (dI us)) (v_var rfl) S fun σ G H S => ?_
      exact ⟨_, _, _, ⟨rfl, us, some (.int (i : Int)), some (.tup (dI us)), rfl, by omega, hb2⟩, S⟩
  · rintro Γ O σ G H ⟨rfl, ws, z1, z2, rfl, _, _⟩ S
    exact g_ret v_bl S (go_true q)
end
end K08

set_option maxHeartbeats 4000000
namespace K08
open PySem L2 Ly
section
variable {P : Program} {w : World} {K : PySem.W.Frag} {mg : Str → Option Value} {base : Heap} {C_Tags C_InvalidMachine C_TooLarge : Addr}
theorem ok_main (T : Txt K mg C_Tags C_InvalidMachine C_TooLarge) (D0 : Df K mg "_is_word" s_is_word) (M1 : ∃ f fd, Mk K C_Tags f ∧ Fun K "__init__" "Tags.__init__" s_Tags_init f fd) (M2 : ∃ f fd, ClsQ K C_Tags f ∧ Fun K "__eq__" "Tags.__eq__" s_Tags_eq f fd)
    (M3 : ∃ f fd, Meth K C_Tags "step" f ∧ Fun K "step" "Tags.step" s_Tags_step f fd) (D4 : Df K mg "_law_like" s_law_like) (D5 : Df K mg "_law_productions" s_law_productions) (D5b : Df K mg "_law_tags_step" s_law_tags_step) (D6 : Df K mg "_law_pool" s_law_pool) (D7 : Df K mg "_law_spread" s_law_spread) (D8 : Df K mg "_law_draw" s_law_draw)
    (D9 : Df K mg "_law_some" s_law_some) (D10 : Df K mg "_law_machine" s_law_machine) (D11 : Df K mg "_law_begin" s_law_begin) {f : Addr} {fd : FuncData} (F : Fun K "law" "law" s_law f fd) : FnOk P w K mg base CX0 6 f fd ["script"] (spLaw K) :=
  have cd := ok_draw D8 T (ok_spread D7 T)
  have cs := ok_some D9 T cd
  ok_law F T (ok_init M1 T (ok_word D0 T)) (ok_eq M2 T) (ok_step M3 T) (ok_like D4 T 3) (ok_lstep D5b T) (ok_pool D6 T) cd (ok_machine D10 T cs (ok_prod D5 T)) (ok_begin D11 T cs)
end
theorem all_mk {l : PySem.W.OpenLaw} {w : World} {K : PySem.W.Frag} {h : Heap} {mg : Str → Option Value} {fa f0 f1 f2 f3 f4 f5 f6 f7 f8 f9 f10 f11 f12 f13 C_Tags C_InvalidMachine C_TooLarge : Addr} (X : K.In h) (G : h.Ns mainGlobals mg) (hfa : mg "law" = some (.ref fa)) {t_MOST_PRODUCTIONS : Tok}
    {od0 an0 od1 an1 od2 an2 od3 an3 od4 an4 od5 an5 od6 an6 od7 an7 od8 an8 od9 an9 od10 an10 od11 an11 od12 an12 od13 an13 : Option Addr} {sl0 sl1 sl2 sl3 sl4 sl5 sl6 sl7 sl8 sl9 sl10 sl11 sl12 sl13 : Array (Option Value)} {oc0 kV0 dc0 pm0 cd0 ct0 oc1 kV1 dc1 pm1 cd1 ct1 oc2 kV2 dc2 pm2 cd2 ct2 oc3 kV3 dc3 pm3 cd3 ct3 oc4 kV4 dc4 pm4 cd4 ct4 oc5 kV5 dc5 pm5 cd5 ct5 oc6 kV6 dc6 pm6 cd6 ct6 oc7 kV7 dc7 pm7 cd7 ct7 oc8 kV8 dc8 pm8 cd8 ct8 oc9 kV9 dc9 pm9 cd9 ct9 oc10 kV10 dc10 pm10 cd10 ct10 oc11 kV11 dc11 pm11 cd11 ct11 oc12 kV12 dc12 pm12 cd12 ct12 oc13 kV13 dc13 pm13 cd13 ct13 : Value} {nm2 q2 : Str} {N2 : Addr} {bs2 : List Value} {sn2 : List Str} {sub2 : List Value} {ab2 : Bool} {col2 : Option Bool} {dd2 : Option Addr} {x02 x12 x22 x32 x52 : Option Value} {nw2 : String}
    (g_Tags : PySem.W.nsIn K mainGlobals "Tags" = some (some (.ref C_Tags)))
    (g_InvalidMachine : PySem.W.nsIn K mainGlobals "InvalidMachine" = some (some (.ref C_InvalidMachine)))
    (g_TooLarge : PySem.W.nsIn K mainGlobals "TooLarge" = some (some (.ref C_TooLarge)))
    (hn0 : PySem.W.specialIn K (.builtin "object.__class__") "__get__" = some (some (.builtin "getset_descriptor.__get__")))
    (ht0 : PySem.W.takesIn K (.builtin "object.__class__") = some true)
    (pg_Tags : PySem.W.plainGet K C_Tags Str.empty = true)
    (hd_Tags : PySem.W.hasDictIn K C_Tags = true)
    (po_Tags : PySem.W.plainOver K C_Tags = true)
    (sa_Tags : PySem.W.findIn K (.ref C_Tags) "__setattr__" = some (some (.builtin "object.__setattr__")))
    (mk_Tags : PySem.W.makesIn K C_Tags = true)
    (kp_Tags : PySem.W.keepIn K (.ref C_Tags) = true)
    (na_Tags_productions : PySem.W.findIn K (.ref C_Tags) "productions" = some none)
    (ha_Tags : PySem.W.findIn K (.ref C_Tags) "__class__" = some (some (.builtin "object.__class__")))
    (hm_Tags : PySem.W.mroIn K C_Tags (.type "object") = some true)
    (kp_InvalidMachine : PySem.W.keepIn K (.ref C_InvalidMachine) = true)
    (ex_InvalidMachine : PySem.W.excIn K C_InvalidMachine [.type "ValueError", .type "Exception", .type "BaseException", .type "object"] "ValueError.__new__" = true)
    (sb_InvalidMachine : PySem.W.subIn K (.ref C_InvalidMachine) (.type "BaseException") = some true)
    (ty_InvalidMachine : PySem.W.typeIn K (.ref C_InvalidMachine) = some (.type "type"))
    (hd_InvalidMachine : PySem.W.hasDictIn K C_InvalidMachine = true)
    (sf_InvalidMachine : PySem.W.subIn K (.ref C_InvalidMachine) (.ref C_InvalidMachine) = some true)
    (ga_InvalidMachine : PySem.W.findIn K (.ref C_InvalidMachine) "__getattribute__" = some (some (.builtin "BaseException.__getattribute__")))
    (gg_InvalidMachine : PySem.W.findIn K (.ref C_InvalidMachine) "__getattr__" = some none)
    (ha_InvalidMachine : PySem.W.findIn K (.ref C_InvalidMachine) "__class__" = some (some (.builtin "object.__class__")))
    (hm_InvalidMachine : PySem.W.mroIn K C_InvalidMachine (.type "object") = some true)
    (kit_k_TL : PySem.W.kitOne K (.ref C_InvalidMachine) (.ref C_TooLarge) = some false)
    (a0 : PySem.W.nsIn K mainGlobals "_is_word" = some (some (.ref f0)))
    (l0 : K.lookup f0 = some ⟨oc0, od0, .func (PySem.W.fnOf "_is_word" "_is_word" (defArgs s_is_word) (defBody s_is_word) (defScope s_is_word) .none kV0 dc0 pm0 an0 cd0 ct0), sl0⟩)
    (c0 : PySem.W.codeIn K cd0 "_is_word" = true)
    (k0 : PySem.W.keepIn K (.ref f0) = true)
    (a1 : PySem.W.findIn K (.ref C_Tags) "__init__" = some (some (.ref f1)))
    (n1 : PySem.W.isFn K (.ref f1) = true)
    (l1 : K.lookup f1 = some ⟨oc1, od1, .func (PySem.W.fnOf "__init__" "Tags.__init__" (defArgs s_Tags_init) (defBody s_Tags_init) (defScope s_Tags_init) .none kV1 dc1 pm1 an1 cd1 ct1), sl1⟩)
    (c1 : PySem.W.codeIn K cd1 "Tags.__init__" = true)
    (k1 : PySem.W.keepIn K (.ref f1) = true)
    (a2 : PySem.W.findIn K (.ref C_Tags) "__eq__" = some (some (.ref f2)))
    (n2 : PySem.W.isFn K (.ref f2) = true)
    (l2 : K.lookup f2 = some ⟨oc2, od2, .func (PySem.W.fnOf "__eq__" "Tags.__eq__" (defArgs s_Tags_eq) (defBody s_Tags_eq) (defScope s_Tags_eq) .none kV2 dc2 pm2 an2 cd2 ct2), sl2⟩)
    (c2 : PySem.W.codeIn K cd2 "Tags.__eq__" = true)
    (k2 : PySem.W.keepIn K (.ref f2) = true)
    (xl2 : K.lookup C_Tags = some (excClassObj nm2 q2 C_Tags N2 bs2 [.type "object"] true sn2 sub2 ab2 col2 dd2 x02 x12 x22 x32 x52 nw2))
    (xn2 : PySem.W.nsOkIn K N2 = true)
    (xe2 : PySem.W.nsIn K N2 "__eq__" = some (some (.ref f2)))
    (xx2 : PySem.W.nsIn K N2 "__ne__" = some none)
    (a3 : PySem.W.findIn K (.ref C_Tags) "step" = some (some (.ref f3)))
    (n3 : PySem.W.isFn K (.ref f3) = true)
    (l3 : K.lookup f3 = some ⟨oc3, od3, .func (PySem.W.fnOf "step" "Tags.step" (defArgs s_Tags_step) (defBody s_Tags_step) (defScope s_Tags_step) .none kV3 dc3 pm3 an3 cd3 ct3), sl3⟩)
    (c3 : PySem.W.codeIn K cd3 "Tags.step" = true)
    (k3 : PySem.W.keepIn K (.ref f3) = true)
    (a4 : PySem.W.nsIn K mainGlobals "_law_like" = some (some (.ref f4)))
    (l4 : K.lookup f4 = some ⟨oc4, od4, .func (PySem.W.fnOf "_law_like" "_law_like" (defArgs s_law_like) (defBody s_law_like) (defScope s_law_like) .none kV4 dc4 pm4 an4 cd4 ct4), sl4⟩)
    (c4 : PySem.W.codeIn K cd4 "_law_like" = true)
    (k4 : PySem.W.keepIn K (.ref f4) = true)
    (a5 : PySem.W.nsIn K mainGlobals "_law_productions" = some (some (.ref f5)))
    (l5 : K.lookup f5 = some ⟨oc5, od5, .func (PySem.W.fnOf "_law_productions" "_law_productions" (defArgs s_law_productions) (defBody s_law_productions) (defScope s_law_productions) .none kV5 dc5 pm5 an5 cd5 ct5), sl5⟩)
    (c5 : PySem.W.codeIn K cd5 "_law_productions" = true)
    (k5 : PySem.W.keepIn K (.ref f5) = true)
    (a6 : PySem.W.nsIn K mainGlobals "_law_tags_step" = some (some (.ref f6)))
    (l6 : K.lookup f6 = some ⟨oc6, od6, .func (PySem.W.fnOf "_law_tags_step" "_law_tags_step" (defArgs s_law_tags_step) (defBody s_law_tags_step) (defScope s_law_tags_step) .none kV6 dc6 pm6 an6 cd6 ct6), sl6⟩)
    (c6 : PySem.W.codeIn K cd6 "_law_tags_step" = true)
    (k6 : PySem.W.keepIn K (.ref f6) = true)
    (a7 : PySem.W.nsIn K mainGlobals "_law_pool" = some (some (.ref f7)))
    (l7 : K.lookup f7 = some ⟨oc7, od7, .func (PySem.W.fnOf "_law_pool" "_law_pool" (defArgs s_law_pool) (defBody s_law_pool) (defScope s_law_pool) .none kV7 dc7 pm7 an7 cd7 ct7), sl7⟩)
    (c7 : PySem.W.codeIn K cd7 "_law_pool" = true)
    (k7 : PySem.W.keepIn K (.ref f7) = true)
    (a8 : PySem.W.nsIn K mainGlobals "_law_spread" = some (some (.ref f8)))
    (l8 : K.lookup f8 = some ⟨oc8, od8, .func (PySem.W.fnOf "_law_spread" "_law_spread" (defArgs s_law_spread) (defBody s_law_spread) (defScope s_law_spread) .none kV8 dc8 pm8 an8 cd8 ct8), sl8⟩)
    (c8 : PySem.W.codeIn K cd8 "_law_spread" = true)
    (k8 : PySem.W.keepIn K (.ref f8) = true)
    (a9 : PySem.W.nsIn K mainGlobals "_law_draw" = some (some (.ref f9)))
    (l9 : K.lookup f9 = some ⟨oc9, od9, .func (PySem.W.fnOf "_law_draw" "_law_draw" (defArgs s_law_draw) (defBody s_law_draw) (defScope s_law_draw) .none kV9 dc9 pm9 an9 cd9 ct9), sl9⟩)
    (c9 : PySem.W.codeIn K cd9 "_law_draw" = true)
    (k9 : PySem.W.keepIn K (.ref f9) = true)
    (a10 : PySem.W.nsIn K mainGlobals "_law_some" = some (some (.ref f10)))
    (l10 : K.lookup f10 = some ⟨oc10, od10, .func (PySem.W.fnOf "_law_some" "_law_some" (defArgs s_law_some) (defBody s_law_some) (defScope s_law_some) .none kV10 dc10 pm10 an10 cd10 ct10), sl10⟩)
    (c10 : PySem.W.codeIn K cd10 "_law_some" = true)
    (k10 : PySem.W.keepIn K (.ref f10) = true)
    (a11 : PySem.W.nsIn K mainGlobals "_law_machine" = some (some (.ref f11)))
    (l11 : K.lookup f11 = some ⟨oc11, od11, .func (PySem.W.fnOf "_law_machine" "_law_machine" (defArgs s_law_machine) (defBody s_law_machine) (defScope s_law_machine) .none kV11 dc11 pm11 an11 cd11 ct11), sl11⟩)
    (c11 : PySem.W.codeIn K cd11 "_law_machine" = true)
    (k11 : PySem.W.keepIn K (.ref f11) = true)
    (a12 : PySem.W.nsIn K mainGlobals "_law_begin" = some (some (.ref f12)))
    (l12 : K.lookup f12 = some ⟨oc12, od12, .func (PySem.W.fnOf "_law_begin" "_law_begin" (defArgs s_law_begin) (defBody s_law_begin) (defScope s_law_begin) .none kV12 dc12 pm12 an12 cd12 ct12), sl12⟩)
    (c12 : PySem.W.codeIn K cd12 "_law_begin" = true)
    (k12 : PySem.W.keepIn K (.ref f12) = true)
    (a13 : PySem.W.nsIn K mainGlobals "law" = some (some (.ref f13)))
    (l13 : K.lookup f13 = some ⟨oc13, od13, .func (PySem.W.fnOf "law" "law" (defArgs s_law) (defBody s_law) (defScope s_law) .none kV13 dc13 pm13 an13 cd13 ct13), sl13⟩)
    (c13 : PySem.W.codeIn K cd13 "law" = true)
    (k13 : PySem.W.keepIn K (.ref f13) = true)
    (z_all : PySem.W.nsIn K mainGlobals "all" = some none)
    (z_bool : PySem.W.nsIn K mainGlobals "bool" = some none)
    (z_int : PySem.W.nsIn K mainGlobals "int" = some none)
    (z_isinstance : PySem.W.nsIn K mainGlobals "isinstance" = some none)
    (z_len : PySem.W.nsIn K mainGlobals "len" = some none)
    (z_list : PySem.W.nsIn K mainGlobals "list" = some none)
    (z_range : PySem.W.nsIn K mainGlobals "range" = some none)
    (z_str : PySem.W.nsIn K mainGlobals "str" = some none)
    (z_tuple : PySem.W.nsIn K mainGlobals "tuple" = some none)
    (m_MOST_PRODUCTIONS : PySem.W.nsIn K mainGlobals "MOST_PRODUCTIONS" = some (some (.int 20000 t_MOST_PRODUCTIONS))) :
    ∃ fd : FuncData, (∀ (s : Shared) (u : Value), BindsTo s fd ⟨[u], []⟩ [("script", u)]) ∧ ∀ base : Heap, K.In base → base.Ns mainGlobals mg → FnOk l.prog w K mg base CX0 6 fa fd ["script"] (spLaw K) := by
  have e := hfa.symm.trans (PySem.W.mg_of X G a13)
  cases e
  have T : Txt K mg C_Tags C_InvalidMachine C_TooLarge := { g_Tags := PySem.W.mg_of X G g_Tags, g_InvalidMachine := PySem.W.mg_of X G g_InvalidMachine, g_TooLarge := PySem.W.mg_of X G g_TooLarge, na_productions := na_Tags_productions, cls := ⟨pg_Tags, hd_Tags, po_Tags, sa_Tags⟩, e_InvalidMachine := ⟨PySem.W.mg_of X G g_InvalidMachine, kp_InvalidMachine, ex_InvalidMachine, sb_InvalidMachine, ty_InvalidMachine, hd_InvalidMachine, sf_InvalidMachine, ⟨ga_InvalidMachine, gg_InvalidMachine, sb_InvalidMachine, hd_InvalidMachine, ha_InvalidMachine, hn0, ht0, hm_InvalidMachine⟩⟩, k_TL := kit_k_TL, n_all := PySem.W.mg_none_of X G z_all, n_bool := PySem.W.mg_none_of X G z_bool, n_int := PySem.W.mg_none_of X G z_int, n_isinstance := PySem.W.mg_none_of X G z_isinstance, n_len := PySem.W.mg_none_of X G z_len, n_list := PySem.W.mg_none_of X G z_list, n_range := PySem.W.mg_none_of X G z_range, n_str := PySem.W.mg_none_of X G z_str, n_tuple := PySem.W.mg_none_of X G z_tuple, m_MOST_PRODUCTIONS := ⟨_, PySem.W.mg_of X G m_MOST_PRODUCTIONS, ⟨_, rfl⟩⟩ }
  exact ⟨PySem.W.fnOf "law" "law" (defArgs s_law) (defBody s_law) (defScope s_law) .none kV13 dc13 pm13 an13 cd13 ct13, fun s u => .of_eq rfl, fun base _ _ => ok_main T ⟨_, _, L2.fun_mk (st := s_is_word) l0 c0 k0, PySem.W.mg_of X G a0⟩ ⟨_, _, ⟨mk_Tags, a1, n1, kp_Tags⟩, L2.fun_mk (st := s_Tags_init) l1 c1 k1⟩ ⟨_, _, ⟨⟨pg_Tags, hd_Tags, po_Tags, sa_Tags⟩, a2, n2, ⟨_, _, _, _, _, _, _, _, _, _, _, _, _, _, _, xl2, xn2, xe2, xx2⟩, ha_Tags, hn0, ht0, hm_Tags⟩, L2.fun_mk (st := s_Tags_eq) l2 c2 k2⟩ ⟨_, _, ⟨a3, n3, k3⟩, L2.fun_mk (st := s_Tags_step) l3 c3 k3⟩ ⟨_, _, L2.fun_mk (st := s_law_like) l4 c4 k4, PySem.W.mg_of X G a4⟩ ⟨_, _, L2.fun_mk (st := s_law_productions) l5 c5 k5, PySem.W.mg_of X G a5⟩ ⟨_, _, L2.fun_mk (st := s_law_tags_step) l6 c6 k6, PySem.W.mg_of X G a6⟩ ⟨_, _, L2.fun_mk (st := s_law_pool) l7 c7 k7, PySem.W.mg_of X G a7⟩ ⟨_, _, L2.fun_mk (st := s_law_spread) l8 c8 k8, PySem.W.mg_of X G a8⟩ ⟨_, _, L2.fun_mk (st := s_law_draw) l9 c9 k9, PySem.W.mg_of X G a9⟩ ⟨_, _, L2.fun_mk (st := s_law_some) l10 c10 k10, PySem.W.mg_of X G a10⟩ ⟨_, _, L2.fun_mk (st := s_law_machine) l11 c11 k11, PySem.W.mg_of X G a11⟩ ⟨_, _, L2.fun_mk (st := s_law_begin) l12 c12 k12, PySem.W.mg_of X G a12⟩ (L2.fun_mk (st := s_law) l13 c13 k13)⟩
theorem walk {l : PySem.W.OpenLaw} {q : Program} {loose : List Str} {XP : (Str → Option Value) → Heap → Prop} {YP : World → Heap → Prop} {d : DefRec} {K : Params → PySem.W.Frag} (hn : l.most = some 63) (hdf : d.params.defaults = [])
    (hY : ∀ (w : World) (h : Heap), YP w h → (K w.params).In h)
    (F : ∀ (w : World) (mg : Str → Option Value) (fa : Addr) (h : Heap), (K w.params).In h → h.Ns mainGlobals mg → mg d.name = some (.ref fa) →
      ∃ fd : FuncData, (∀ (s : Shared) (u : Value), BindsTo s fd ⟨[u], []⟩ [("script", u)]) ∧ ∀ base : Heap, (K w.params).In base → base.Ns mainGlobals mg → FnOk l.prog w (K w.params) mg base CX0 6 fa fd ["script"] (spLaw (K w.params))) :
    PySem.W.WalkO q loose XP YP l.row.toRowW d [] (fun f vs => PySem.call f vs) :=
  L2.walk_of (n := 63) (k := 6) (x := "script") (CX := fun _ => CX0) (sp := fun w => spLaw (K w.params)) hn (by decide) hdf ⟨rfl, by decide, by decide⟩ hY F (fun _ _ a ns hl _ hS => ⟨a, ns, rfl, hS, hl, fun _ => rfl⟩) fun _ _ _ _ _ z => z
end K08
open PySem PySem.W PyProof.Rows in
set_option maxRecDepth 100000 in
set_option maxHeartbeats 0 in
theorem PySem.Challenge.cw_translatory_k08_tag_systems_holds : PySem.Challenge.rw_translatory_k08_tag_systems.Holds := by
  w_on; o_law; k_head; (case hw => w_witness2)
  k_fill
  refine K08.walk (l := PySem.Challenge.rw_translatory_k08_tag_systems) rfl rfl (fun w h Y => PySem.W.kIn_of Y) ?F
  case F =>
    intro w mg fa h KX G hmg
    refine' K08.all_mk KX G hmg ?g_Tags ?g_InvalidMachine ?g_TooLarge ?hn0 ?ht0 ?pg_Tags ?hd_Tags ?po_Tags ?sa_Tags ?mk_Tags ?kp_Tags ?na_Tags_productions ?ha_Tags ?hm_Tags ?kp_InvalidMachine ?ex_InvalidMachine ?sb_InvalidMachine ?ty_InvalidMachine ?hd_InvalidMachine ?sf_InvalidMachine ?ga_InvalidMachine ?gg_InvalidMachine ?ha_InvalidMachine ?hm_InvalidMachine ?kit_k_TL ?a0 ?l0 ?c0 ?k0 ?a1 ?n1 ?l1 ?c1 ?k1 ?a2 ?n2 ?l2 ?c2 ?k2 ?xl2 ?xn2 ?xe2 ?xx2 ?a3 ?n3 ?l3 ?c3 ?k3 ?a4 ?l4 ?c4 ?k4 ?a5 ?l5 ?c5 ?k5 ?a6 ?l6 ?c6 ?k6 ?a7 ?l7 ?c7 ?k7 ?a8 ?l8 ?c8 ?k8 ?a9 ?l9 ?c9 ?k9 ?a10 ?l10 ?c10 ?k10 ?a11 ?l11 ?c11 ?k11 ?a12 ?l12 ?c12 ?k12 ?a13 ?l13 ?c13 ?k13 ?z_all ?z_bool ?z_int ?z_isinstance ?z_len ?z_list ?z_range ?z_str ?z_tuple ?m_MOST_PRODUCTIONS
    (case g_Tags => k_is)
    (case g_InvalidMachine => k_is)
    (case g_TooLarge => k_is)
    (case hn0 => k_is)
    (case ht0 => k_is)
    (case pg_Tags => k_is)
    (case hd_Tags => k_is)
    (case po_Tags => k_is)
    (case sa_Tags => k_is)
    (case mk_Tags => k_is)
    (case kp_Tags => k_is)
    (case na_Tags_productions => k_is)
    (case ha_Tags => k_is)
    (case hm_Tags => k_is)
    (case kp_InvalidMachine => k_is)
    (case ex_InvalidMachine => k_exc)
    (case sb_InvalidMachine => k_is)
    (case ty_InvalidMachine => k_is)
    (case hd_InvalidMachine => k_is)
    (case sf_InvalidMachine => first | rfl | k_is)
    (case ga_InvalidMachine => k_is)
    (case gg_InvalidMachine => k_is)
    (case ha_InvalidMachine => k_is)
    (case hm_InvalidMachine => k_is)
    (case kit_k_TL => first | rfl | k_is)
    (case a0 => k_is)
    (case l0 => k_is)
    (case c0 => k_is)
    (case k0 => k_is)
    (case a1 => k_is)
    (case n1 => k_is)
    (case l1 => k_is)
    (case c1 => k_is)
    (case k1 => k_is)
    (case a2 => k_is)
    (case n2 => k_is)
    (case l2 => k_is)
    (case c2 => k_is)
    (case k2 => k_is)
    (case xl2 => k_is)
    (case xn2 => first | kernel_rfl | rfl)
    (case xe2 => k_is)
    (case xx2 => k_is)
    (case a3 => k_is)
    (case n3 => k_is)
    (case l3 => k_is)
    (case c3 => k_is)
    (case k3 => k_is)
    (case a4 => k_is)
    (case l4 => k_is)
    (case c4 => k_is)
    (case k4 => k_is)
    (case a5 => k_is)
    (case l5 => k_is)
    (case c5 => k_is)
    (case k5 => k_is)
    (case a6 => k_is)
    (case l6 => k_is)
    (case c6 => k_is)
    (case k6 => k_is)
    (case a7 => k_is)
    (case l7 => k_is)
    (case c7 => k_is)
    (case k7 => k_is)
    (case a8 => k_is)
    (case l8 => k_is)
    (case c8 => k_is)
    (case k8 => k_is)
    (case a9 => k_is)
    (case l9 => k_is)
    (case c9 => k_is)
    (case k9 => k_is)
    (case a10 => k_is)
    (case l10 => k_is)
    (case c10 => k_is)
    (case k10 => k_is)
    (case a11 => k_is)
    (case l11 => k_is)
    (case c11 => k_is)
    (case k11 => k_is)
    (case a12 => k_is)
    (case l12 => k_is)
    (case c12 => k_is)
    (case k12 => k_is)
    (case a13 => k_is)
    (case l13 => k_is)
    (case c13 => k_is)
    (case k13 => k_is)
    (case z_all => k_is)
    (case z_bool => k_is)
    (case z_int => k_is)
    (case z_isinstance => k_is)
    (case z_len => k_is)
    (case z_list => k_is)
    (case z_range => k_is)
    (case z_str => k_is)
    (case z_tuple => k_is)
    (case m_MOST_PRODUCTIONS => k_is)
#print axioms PySem.Challenge.cw_translatory_k08_tag_systems_holds

