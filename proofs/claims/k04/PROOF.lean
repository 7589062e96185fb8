import PyProof.Rows.All
import Wide.All
import OpenK.AllK
import Wide.FinOn
import HandS.ForMost
import HandS.Conv
import HandS.IsInst
import HandS.TupAny
import HandS.WideBits
import HandS.Rev
import HandS.Style
import HandS.Flow
import HandS.Evl
import HandS.Codes
import PySem.Challenge.RW_translatory_k04_tapes_and_their_numbers
set_option Elab.async false
set_option linter.all false
set_option maxRecDepth 100000
set_option maxHeartbeats 2000000
namespace Ly
open PySem L2

/-! ## data -/
inductive Dat where
  | non | bl (b : Bool) | int (i : Int) | str (x : Str) | adr (a : Addr) | tup (xs : List Dat) | lst (xs : List Dat) | obj (C : Addr) (fs : List (Str × Dat)) | dct (es : List (List Key × Dat))

mutual
inductive Rep (K : PySem.W.Frag) (G : Hp) : V → Dat → Prop
  | non : Rep K G .non .non
  | bl (b : Bool) : Rep K G (.bl b) (.bl b)
  | int (i : Int) : Rep K G (.int i) (.int i)
  | str (x : Str) : Rep K G (.str x) (.str x)
  | adr (a : Addr) : Rep K G (.ref a) (.adr a)
  | tup {a : Addr} {xs : List V} {ds : List Dat} : SqT K G a xs → Reps K G xs ds → Rep K G (.ref a) (.tup ds)
  | lst {a : Addr} {xs : List V} {ds : List Dat} : SqL K G a xs → Reps K G xs ds → Rep K G (.ref a) (.lst ds)
  | dct {a : Addr} {vs : List (List Key × V)} {es : List (List Key × Dat)} : G a = some (.dT vs) → Dcts K G vs es → Rep K G (.ref a) (.dct es)
  | obj {a C dx : Addr} {vs : List (Str × V)} {fs : List (Str × Dat)} : G a = some (.ins C dx vs) → Flds K G vs fs → Rep K G (.ref a) (.obj C fs)
inductive Reps (K : PySem.W.Frag) (G : Hp) : List V → List Dat → Prop
  | nil : Reps K G [] []
  | cons {v : V} {vs : List V} {d : Dat} {ds : List Dat} : Rep K G v d → Reps K G vs ds → Reps K G (v :: vs) (d :: ds)
inductive Flds (K : PySem.W.Frag) (G : Hp) : List (Str × V) → List (Str × Dat) → Prop
  | nil : Flds K G [] []
  | cons {f : Str} {v : V} {vs : List (Str × V)} {d : Dat} {ds : List (Str × Dat)} : Rep K G v d → Flds K G vs ds → Flds K G ((f, v) :: vs) ((f, d) :: ds)
/-- a dict with tuples of scalars as keys -/
inductive Dcts (K : PySem.W.Frag) (G : Hp) : List (List Key × V) → List (List Key × Dat) → Prop
  | nil : Dcts K G [] []
  | cons {k : List Key} {v : V} {vs : List (List Key × V)} {d : Dat} {ds : List (List Key × Dat)} : Rep K G v d → Dcts K G vs ds → Dcts K G ((k, v) :: vs) ((k, d) :: ds)
end

def Ex (H H' : Hp) : Prop := ∀ a o, H a = some o → H' a = some o
theorem Ex.refl (H : Hp) : Ex H H := fun _ _ h => h
theorem Ex.trans {H H1 H2 : Hp} (a : Ex H H1) (b : Ex H1 H2) : Ex H H2 := fun x o h => b x o (a x o h)
theorem Ex.new {H : Hp} {p : Addr} {o : HO} (h : H p = none) : Ex H (upd H p o) := fun a u e => by
  rw [upd_ne (ne_of_none e h)]
  exact e
theorem ex_rd {H H' : Hp} {a : Addr} {u : HO} (e : Ex H H') (h : Rd H a u) : Rd H' a u := by
  rcases h with h | ⟨o, h⟩
  · exact Or.inl (e a _ h)
  · exact Or.inr ⟨o, e a _ h⟩
theorem ex_l {K : PySem.W.Frag} {H H' : Hp} {a : Addr} {xs : List V} (e : Ex H H') (h : SqL K H a xs) : SqL K H' a xs := by
  rcases h with h | h
  · exact Or.inl (ex_rd e h)
  · exact Or.inr h
theorem ex_t {K : PySem.W.Frag} {H H' : Hp} {a : Addr} {xs : List V} (e : Ex H H') (h : SqT K H a xs) : SqT K H' a xs := by
  rcases h with h | h
  · exact Or.inl (ex_rd e h)
  · exact Or.inr h
theorem l_of {K : PySem.W.Frag} {H : Hp} {a : Addr} {xs : List V} (h : H a = some (.lst xs)) : SqL K H a xs := Or.inl (Or.inl h)
theorem t_of {K : PySem.W.Frag} {H : Hp} {a : Addr} {xs : List V} (h : H a = some (.tup xs)) : SqT K H a xs := Or.inl (Or.inl h)

section
variable {K : PySem.W.Frag} {G G2 : Hp}
mutual
theorem Rep.mono (e : Ex G G2) : ∀ {v : V} {d : Dat}, Rep K G v d → Rep K G2 v d
  | _, _, .non => .non
  | _, _, .bl b => .bl b
  | _, _, .int i => .int i
  | _, _, .str x => .str x
  | _, _, .adr a => .adr a
  | _, _, .tup h r => .tup (ex_t e h) (Reps.mono e r)
  | _, _, .lst h r => .lst (ex_l e h) (Reps.mono e r)
  | _, _, .obj h r => .obj (e _ _ h) (Flds.mono e r)
  | _, _, .dct h r => .dct (e _ _ h) (Dcts.mono e r)
theorem Reps.mono (e : Ex G G2) : ∀ {v : List V} {d : List Dat}, Reps K G v d → Reps K G2 v d
  | _, _, .nil => .nil
  | _, _, .cons h r => .cons (Rep.mono e h) (Reps.mono e r)
theorem Flds.mono (e : Ex G G2) : ∀ {v : List (Str × V)} {d : List (Str × Dat)}, Flds K G v d → Flds K G2 v d
  | _, _, .nil => .nil
  | _, _, .cons h r => .cons (Rep.mono e h) (Flds.mono e r)
theorem Dcts.mono (e : Ex G G2) : ∀ {v : List (List Key × V)} {d : List (List Key × Dat)}, Dcts K G v d → Dcts K G2 v d
  | _, _, .nil => .nil
  | _, _, .cons h r => .cons (Rep.mono e h) (Dcts.mono e r)
end
end

section
variable {K : PySem.W.Frag} {G : Hp} {v : V} {xs ys : List V} {ds es : List Dat} {d : Dat}
theorem Rep.int_inv {i : Int} (h : Rep K G v (.int i)) : v = .int i := by cases h; rfl
theorem Rep.bl_inv {b : Bool} (h : Rep K G v (.bl b)) : v = .bl b := by cases h; rfl
theorem Rep.str_inv {x : Str} (h : Rep K G v (.str x)) : v = .str x := by cases h; rfl
theorem Rep.non_inv (h : Rep K G v .non) : v = .non := by cases h; rfl
theorem Rep.adr_inv {a : Addr} (h : Rep K G v (.adr a)) : v = .ref a := by cases h; rfl
theorem Rep.tup_inv (h : Rep K G v (.tup ds)) : ∃ a xs, v = .ref a ∧ SqT K G a xs ∧ Reps K G xs ds := by
  cases h with
  | tup h r => exact ⟨_, _, rfl, h, r⟩
theorem Rep.lst_inv (h : Rep K G v (.lst ds)) : ∃ a xs, v = .ref a ∧ SqL K G a xs ∧ Reps K G xs ds := by
  cases h with
  | lst h r => exact ⟨_, _, rfl, h, r⟩
theorem Reps.length : ∀ {xs : List V} {ds : List Dat}, Reps K G xs ds → xs.length = ds.length
  | _, _, .nil => rfl
  | _, _, .cons _ r => by rw [List.length_cons, List.length_cons, Reps.length r]
theorem Reps.get : ∀ {xs : List V} {ds : List Dat} {i : Nat} {d : Dat}, Reps K G xs ds → ds[i]? = some d → ∃ v, xs[i]? = some v ∧ Rep K G v d
  | _, _, _, _, .nil, h => by simp at h
  | _, _, 0, _, .cons h _, e => by
    simp at e
    subst e
    exact ⟨_, rfl, h⟩
  | _, _, i + 1, d, .cons _ r, e => by
    obtain ⟨v, h1, h2⟩ := Reps.get (i := i) (d := d) r (by simpa using e)
    exact ⟨v, by simpa using h1, h2⟩
theorem Reps.getV : ∀ {xs : List V} {ds : List Dat} {i : Nat} {v : V}, Reps K G xs ds → xs[i]? = some v → ∃ d, ds[i]? = some d ∧ Rep K G v d
  | _, _, _, _, .nil, h => by simp at h
  | _, _, 0, _, .cons h _, e => by
    simp at e
    subst e
    exact ⟨_, rfl, h⟩
  | _, _, i + 1, d, .cons _ r, e => by
    obtain ⟨v, h1, h2⟩ := Reps.getV (i := i) (v := d) r (by simpa using e)
    exact ⟨v, by simpa using h1, h2⟩
theorem Reps.append : ∀ {xs ys : List V} {ds es : List Dat}, Reps K G xs ds → Reps K G ys es → Reps K G (xs ++ ys) (ds ++ es)
  | _, _, _, _, .nil, s => s
  | _, _, _, _, .cons r t, s => .cons r (Reps.append t s)
theorem Reps.take : ∀ {xs : List V} {us : List Dat} (n : Nat), Reps K G xs us → Reps K G (xs.take n) (us.take n)
  | _, _, 0, _ => .nil
  | _, _, _ + 1, .nil => .nil
  | _, _, n + 1, .cons r t => .cons r (Reps.take n t)
theorem Reps.drop : ∀ {xs : List V} {us : List Dat} (n : Nat), Reps K G xs us → Reps K G (xs.drop n) (us.drop n)
  | _, _, 0, r => r
  | _, _, _ + 1, .nil => .nil
  | _, _, n + 1, .cons _ t => Reps.drop n t
theorem Reps.reverse : ∀ {xs : List V} {us : List Dat}, Reps K G xs us → Reps K G xs.reverse us.reverse
  | _, _, .nil => .nil
  | _, _, .cons r t => by
    rw [List.reverse_cons, List.reverse_cons]
    exact Reps.append (Reps.reverse t) (.cons r .nil)
theorem Reps.ints : ∀ {xs : List V} {ns : List Int}, Reps K G xs (ns.map Dat.int) → xs = ns.map V.int
  | _, [], h => by
    cases h
    rfl
  | _, n :: ns, h => by
    cases h with
    | cons h r =>
      cases h
      rw [Reps.ints (ns := ns) r]
      rfl
theorem Reps.of_ints : ∀ (ns : List Int), Reps K G (ns.map V.int) (ns.map Dat.int)
  | [] => .nil
  | n :: ns => .cons (.int n) (Reps.of_ints ns)
theorem Reps.set {v : V} {d : Dat} (h : Rep K G v d) : ∀ {xs : List V} {us : List Dat} (n : Nat), Reps K G xs us → Reps K G (xs.set n v) (us.set n d)
  | _, _, _, .nil => .nil
  | _, _, 0, .cons _ t => .cons h t
  | _, _, n + 1, .cons r t => .cons r (Reps.set h n t)
theorem Flds.get : ∀ {vs : List (Str × V)} {fs : List (Str × Dat)} {f : Str} {d : Dat}, Flds K G vs fs → fs.lookup f = some d → ∃ v, vs.lookup f = some v ∧ Rep K G v d
  | _, _, _, _, .nil, h => by simp at h
  | _, _, f, d, .cons (f := g) h r, e => by
    rw [List.lookup_cons] at e ⊢
    by_cases q : (f == g) = true
    · rw [q] at e ⊢
      simp at e
      subst e
      exact ⟨_, rfl, h⟩
    · have q : (f == g) = false := by simpa using q
      rw [q] at e ⊢
      exact Flds.get r e
end

/-! ## worlds -/
structure Wd where
  m : Addr → Prop
  I : Hp → Prop
  loc : ∀ {H H2 : Hp}, I H → (∀ a, m a → H2 a = H a) → I H2
  tr : ∀ {H : Hp} {a : Addr}, I H → m a → ∃ o, H a = some o
theorem Wd.st (W : Wd) {H H2 : Hp} (h : W.I H) (e : Ex H H2) : W.I H2 := W.loc h fun a ha => by
  obtain ⟨o, ho⟩ := W.tr h ha
  rw [ho]
  exact e a o ho
def Wd0 : Wd := ⟨fun _ => False, fun _ => True, fun _ _ => trivial, fun _ h => h.elim⟩
structure Ok (W : Wd) (G H : Hp) : Prop where
  ex : Ex G H
  inv : W.I H
  off : ∀ a, W.m a → G a = none
structure Stp (W : Wd) (G H G2 H2 : Hp) : Prop where
  gg : Ex G G2
  gh : Ex G2 H2
  hh : ∀ a o, ¬ W.m a → H a = some o → H2 a = some o
  nw : ∀ a o, G2 a = some o → G a = some o ∨ H a = none
  inv : W.I H2
section
variable {W : Wd} {G H G2 H2 G3 H3 : Hp}
theorem Stp.ok (k : Ok W G H) (s : Stp W G H G2 H2) : Ok W G2 H2 := ⟨s.gh, s.inv, fun a ha => by
  cases e : G2 a with
  | none => rfl
  | some o =>
    rcases s.nw a o e with h | h
    · rw [k.off a ha] at h
      cases h
    · obtain ⟨u, hu⟩ := W.tr k.inv ha
      rw [hu] at h
      cases h⟩
theorem Stp.refl (k : Ok W G H) : Stp W G H G H := ⟨Ex.refl _, k.ex, fun _ _ _ h => h, fun _ _ h => .inl h, k.inv⟩
theorem Stp.trans (s : Stp W G H G2 H2) (t : Stp W G2 H2 G3 H3) : Stp W G H G3 H3 := by
  refine ⟨s.gg.trans t.gg, t.gh, fun a o hm h => t.hh a o hm (s.hh a o hm h), fun a o h => ?_, t.inv⟩
  rcases t.nw a o h with h | h
  · exact s.nw a o h
  · right
    cases e : H a with
    | none => rfl
    | some u =>
      by_cases hm : W.m a
      · obtain ⟨z, hz⟩ := W.tr s.inv hm
        rw [hz] at h
        cases h
      · rw [s.hh a u hm e] at h
        cases h
/-- the heap alone grows -/
theorem Stp.grow (k : Ok W G H) (e : Ex H H2) : Stp W G H G H2 := ⟨Ex.refl _, k.ex.trans e, fun a o _ h => e a o h, fun _ _ h => .inl h, W.st k.inv e⟩
/-- a new object is known from now on -/
theorem Stp.new (k : Ok W G H) {p : Addr} {o : HO} (hp : H p = none) : Stp W G H (upd G p o) (upd H p o) := by
  have gp : G p = none := by
    cases e : G p with
    | none => rfl
    | some u =>
      rw [k.ex p u e] at hp
      cases hp
  refine ⟨Ex.new gp, fun a u h => ?_, fun a u _ h => Ex.new hp a u h, fun a u h => ?_, W.st k.inv (Ex.new hp)⟩
  · by_cases e : a = p
    · subst e
      rw [upd_same] at h ⊢
      exact h
    · rw [upd_ne e] at h ⊢
      exact k.ex a u h
  · by_cases e : a = p
    · subst e
      exact .inr hp
    · rw [upd_ne e] at h
      exact .inl h
theorem Ok.pure (k : Ok W G H) : Ok Wd0 G H := ⟨k.ex, trivial, fun _ h => h.elim⟩
theorem Stp.of0 (k : Ok W G H) (s : Stp Wd0 G H G2 H2) : Stp W G H G2 H2 := ⟨s.gg, s.gh, fun a o _ h => s.hh a o (fun z => z) h, s.nw, W.st k.inv fun a o h => s.hh a o (fun z => z) h⟩
theorem Stp.ex0 (s : Stp Wd0 G H G2 H2) : Ex H H2 := fun a o h => s.hh a o (fun z => z) h
end

/-! ## the slots by data -/
structure Env (K : PySem.W.Frag) (G : Hp) (σ : L2.St) (Γ : List (Option Dat)) : Prop where
  len : σ.length = Γ.length
  at' : ∀ (i : Nat) (d : Dat), Γ[i]? = some (some d) → ∃ v, σ[i]? = some (some v) ∧ Rep K G v d
section
variable {K : PySem.W.Frag} {G G2 : Hp} {σ : L2.St} {Γ Γ' : List (Option Dat)}
theorem Env.mono (e : Ex G G2) (h : Env K G σ Γ) : Env K G2 σ Γ := ⟨h.len, fun i d q => by
  obtain ⟨v, h1, h2⟩ := h.at' i d q
  exact ⟨v, h1, h2.mono e⟩⟩
theorem Env.set {i : Nat} {v : V} {d : Dat} (h : Env K G σ Γ) (r : Rep K G v d) : Env K G (σ.set i (some v)) (Γ.set i (some d)) := by
  refine ⟨by rw [List.length_set, List.length_set, h.len], fun j u q => ?_⟩
  by_cases hij : i = j
  · subst hij
    by_cases hl : i < Γ.length
    · rw [List.getElem?_set_self hl] at q
      have e : d = u := Option.some.inj (Option.some.inj q)
      subst e
      exact ⟨v, List.getElem?_set_self (by rw [h.len]; exact hl), r⟩
    · rw [List.getElem?_eq_none (by rw [List.length_set]; omega)] at q
      cases q
  · rw [List.getElem?_set_ne hij] at q ⊢
    exact h.at' j u q
inductive Wk : List (Option Dat) → List (Option Dat) → Prop
  | nil : Wk [] []
  | keep {a : Option Dat} {Γ Γ' : List (Option Dat)} : Wk Γ Γ' → Wk (a :: Γ) (a :: Γ')
  | drop {a : Option Dat} {Γ Γ' : List (Option Dat)} : Wk Γ Γ' → Wk (a :: Γ) (none :: Γ')
theorem Wk.refl : ∀ (Γ : List (Option Dat)), Wk Γ Γ
  | [] => .nil
  | _ :: Γ => .keep (Wk.refl Γ)
theorem Wk.length : ∀ {Γ Γ' : List (Option Dat)}, Wk Γ Γ' → Γ.length = Γ'.length
  | _, _, .nil => rfl
  | _, _, .keep h => by rw [List.length_cons, List.length_cons, Wk.length h]
  | _, _, .drop h => by rw [List.length_cons, List.length_cons, Wk.length h]
theorem Wk.get : ∀ {Γ Γ' : List (Option Dat)} {i : Nat} {d : Dat}, Wk Γ Γ' → Γ'[i]? = some (some d) → Γ[i]? = some (some d)
  | _, _, _, _, .nil, h => h
  | _, _, 0, _, .keep _, h => h
  | _, _, _ + 1, _, .keep w, h => by
    rw [List.getElem?_cons_succ] at h ⊢
    exact Wk.get w h
  | _, _, 0, _, .drop _, h => by
    simp at h
  | _, _, _ + 1, _, .drop w, h => by
    rw [List.getElem?_cons_succ] at h ⊢
    exact Wk.get w h
theorem Env.weak (w : Wk Γ Γ') (h : Env K G σ Γ) : Env K G σ Γ' := ⟨h.len.trans w.length, fun i d q => h.at' i d (w.get q)⟩
def wipeG (Γ : List (Option Dat)) : List Nat → List (Option Dat)
  | [] => Γ
  | v :: vs => (wipeG Γ vs).set v none
theorem Env.none {i : Nat} (h : Env K G σ Γ) : Env K G (σ.set i Option.none) (Γ.set i Option.none) := by
  refine ⟨by rw [List.length_set, List.length_set, h.len], fun j u q => ?_⟩
  by_cases hij : i = j
  · subst hij
    by_cases hl : i < Γ.length
    · rw [List.getElem?_set_self hl] at q
      cases q
    · rw [List.getElem?_eq_none (by rw [List.length_set]; omega)] at q
      cases q
  · rw [List.getElem?_set_ne hij] at q ⊢
    exact h.at' j u q
theorem Env.wipe (h : Env K G σ Γ) : ∀ vs : List Nat, Env K G (L2.wipe σ vs) (wipeG Γ vs)
  | [] => h
  | v :: vs => (Env.wipe h vs).none
theorem env_start {N : List Str} {vs : List V} {ds : List Dat} (r : Reps K G vs ds) : Env K G (L2.start N vs) (ds.map some ++ List.replicate (N.length - ds.length) Option.none) := by
  have hl := r.length
  refine ⟨by unfold L2.start; simp [hl], fun i d q => ?_⟩
  unfold L2.start
  by_cases hi : i < ds.length
  · rw [List.getElem?_append_left (by simpa using hi), List.getElem?_map] at q
    cases e : ds[i]? with
    | none =>
      rw [e] at q
      cases q
    | some u =>
      rw [e] at q
      have e2 : u = d := Option.some.inj (Option.some.inj q)
      subst e2
      obtain ⟨v, h1, h2⟩ := r.get e
      refine ⟨v, ?_, h2⟩
      rw [List.getElem?_append_left (by rw [List.length_map, hl]; exact hi), List.getElem?_map, h1]
      rfl
  · rw [List.getElem?_append_right (by simpa using hi), List.getElem?_replicate] at q
    split at q <;> cases q
end
end Ly

set_option maxHeartbeats 2000000
namespace Ly
open PySem L2

/-! ## what expressions come to -/
/-- what is wanted of a value that is one of P -/
abbrev Go (W : Wd) (K : PySem.W.Frag) (G H : Hp) (P : Dat → Prop) (Q : VK) : Prop := ∀ v d G2 H2, Stp W G H G2 H2 → P d → Rep K G2 v d → Q v H2
def Ev (W : Wd) (K : PySem.W.Frag) (te : TE) (Γ : List (Option Dat)) (P : Dat → Prop) : Prop := ∀ σ G H, Env K G σ Γ → Ok W G H → ∀ Q : VK, Go W K G H P Q → te σ H Q
abbrev EvX (W : Wd) (K : PySem.W.Frag) (te : TE) (Γ : List (Option Dat)) (d : Dat) : Prop := Ev W K te Γ (· = d)
def EvB (W : Wd) (K : PySem.W.Frag) (tt : TT) (Γ : List (Option Dat)) (P : Bool → Prop) : Prop := ∀ σ G H, Env K G σ Γ → Ok W G H → ∀ Q : Bool → Hp → Prop, (∀ b G2 H2, Stp W G H G2 H2 → P b → Q b H2) → tt σ H Q
abbrev EvBX (W : Wd) (K : PySem.W.Frag) (tt : TT) (Γ : List (Option Dat)) (b : Bool) : Prop := EvB W K tt Γ (· = b)
def EvA (W : Wd) (K : PySem.W.Frag) (ta : TA) (Γ : List (Option Dat)) (P : List Dat → Prop) : Prop := ∀ σ G H, Env K G σ Γ → Ok W G H → ∀ Q : List V → Hp → Prop, (∀ vs ds G2 H2, Stp W G H G2 H2 → P ds → Reps K G2 vs ds → Q vs H2) → ta σ H Q
abbrev EvAX (W : Wd) (K : PySem.W.Frag) (ta : TA) (Γ : List (Option Dat)) (ds : List Dat) : Prop := EvA W K ta Γ (· = ds)
def EvO (W : Wd) (K : PySem.W.Frag) (to : TO) (Γ : List (Option Dat)) (P : Option Int → Prop) : Prop := ∀ σ G H, Env K G σ Γ → Ok W G H → ∀ Q : Option Int → Hp → Prop, (∀ o G2 H2, Stp W G H G2 H2 → P o → Q o H2) → to σ H Q
/-- a new list -/
def EvN (W : Wd) (K : PySem.W.Frag) (te : TE) (Γ : List (Option Dat)) (P : List Dat → Prop) : Prop := ∀ σ G H, Env K G σ Γ → Ok W G H → ∀ Q : VK, (∀ p xs ds G2 H2, Stp W G H G2 H2 → H p = none → G2 p = none → H2 p = some (.lst xs) → Reps K G2 xs ds → P ds → Q (.ref p) H2) → te σ H Q
/-- operations by values -/
def RV (W : Wd) (K : PySem.W.Frag) (r : R2) (a b : Dat) (P : Dat → Prop) : Prop := ∀ G H x y, Ok W G H → Rep K G x a → Rep K G y b → ∀ Q : VK, Go W K G H P Q → r x y H Q
def RU (W : Wd) (K : PySem.W.Frag) (r : V → Hp → VK → Prop) (a : Dat) (P : Dat → Prop) : Prop := ∀ G H x, Ok W G H → Rep K G x a → ∀ Q : VK, Go W K G H P Q → r x H Q
def RC (W : Wd) (K : PySem.W.Frag) (r : List V → Hp → VK → Prop) (ds : List Dat) (P : Dat → Prop) : Prop := ∀ G H xs, Ok W G H → Reps K G xs ds → ∀ Q : VK, Go W K G H P Q → r xs H Q

section
variable {W : Wd} {K : PySem.W.Frag} {Γ : List (Option Dat)} {ta tb tc te : TE} {tt tu : TT} {tA : TA} {P R S : Dat → Prop} {a b d e : Dat} {G H G2 H2 : Hp}
theorem Go.here {Q : VK} {v : V} (q : Go W K G H P Q) (k : Ok W G H) (r : Rep K G v d) (p : P d) : Q v H := q v d G H (Stp.refl k) p r
theorem Go.step {Q : VK} (q : Go W K G H P Q) (s : Stp W G H G2 H2) : Go W K G2 H2 P Q := fun v d G3 H3 t p r => q v d G3 H3 (s.trans t) p r
theorem Ev.imp (h : Ev W K te Γ P) (i : ∀ d, P d → R d) : Ev W K te Γ R := fun σ G H n k Q q => h σ G H n k Q fun v d G2 H2 s p r => q v d G2 H2 s (i d p) r
theorem EvB.imp {P R : Bool → Prop} (h : EvB W K tt Γ P) (i : ∀ d, P d → R d) : EvB W K tt Γ R := fun σ G H n k Q q => h σ G H n k Q fun b G2 H2 s p => q b G2 H2 s (i b p)
theorem EvX.to (h : EvX W K te Γ a) (i : a = b) : EvX W K te Γ b := i ▸ h
theorem EvX.any (h : EvX W K te Γ a) (i : P a) : Ev W K te Γ P := h.imp fun d e => e ▸ i
theorem EvBX.to {a b : Bool} (h : EvBX W K tt Γ a) (i : a = b) : EvBX W K tt Γ b := i ▸ h

theorem v_var {i : Nat} (h : Γ[i]? = some (some d)) : EvX W K (tVar i) Γ d := fun σ G H n k Q q => by
  obtain ⟨v, h1, h2⟩ := n.at' i d h
  exact ⟨v, h1, q.here k h2 rfl⟩
theorem v_int {i : Int} : EvX W K (tC (.int i)) Γ (.int i) := fun σ G H n k Q q => q.here k (.int i) rfl
theorem v_bl {b : Bool} : EvX W K (tC (.bl b)) Γ (.bl b) := fun σ G H n k Q q => q.here k (.bl b) rfl
theorem v_str {x : Str} : EvX W K (tC (.str x)) Γ (.str x) := fun σ G H n k Q q => q.here k (.str x) rfl
theorem v_non : EvX W K (tC .non) Γ .non := fun σ G H n k Q q => q.here k .non rfl
theorem v_op {r : R2} (ha : Ev W K ta Γ P) (hb : Ev W K tb Γ R) (hr : ∀ a b, P a → R b → RV W K r a b S) : Ev W K (tOp r ta tb) Γ S := fun σ G H n k Q q =>
  ha σ G H n k _ fun x dx G2 H2 s px rx => hb σ G2 H2 (n.mono s.gg) (s.ok k) _ fun y dy G3 H3 t py ry =>
    hr dx dy px py G3 H3 x y (t.ok (s.ok k)) (rx.mono t.gg) ry Q (q.step (s.trans t))
theorem v_opx {r : R2} (ha : EvX W K ta Γ a) (hb : EvX W K tb Γ b) (hr : RV W K r a b S) : Ev W K (tOp r ta tb) Γ S := v_op ha hb fun x y hx hy => by
  subst hx hy
  exact hr
theorem v_un {r : V → Hp → VK → Prop} (ha : Ev W K ta Γ P) (hr : ∀ a, P a → RU W K r a S) : Ev W K (tUn r ta) Γ S := fun σ G H n k Q q =>
  ha σ G H n k _ fun x dx G2 H2 s px rx => hr dx px G2 H2 x (s.ok k) rx Q (q.step s)
theorem v_neg {i : Int} (ha : EvX W K ta Γ (.int i)) : EvX W K (tUn (rU fun i => .int (-i)) ta) Γ (.int (-i)) := v_un ha fun d e => by
  subst e
  intro G H x k r Q q
  cases r
  exact ⟨i, rfl, q.here k (.int _) rfl⟩
/-! by values -/
theorem rv_I0 {g : Int → Int → Dat} {g' : Int → Int → V} {i j : Int} (hg : ∀ G, Rep K G (g' i j) (g i j)) : RV W K (rI0 g') (.int i) (.int j) (· = g i j) := fun G H x y k rx ry Q q => by
  cases rx
  cases ry
  exact ⟨i, j, rfl, rfl, q.here k (hg G) rfl⟩
theorem rv_I {C : Int → Int → Prop} {g : Int → Int → Dat} {g' : Int → Int → V} {i j : Int} (hg : ∀ G, Rep K G (g' i j) (g i j)) (hc : C i j) : RV W K (rI C g') (.int i) (.int j) (· = g i j) := fun G H x y k rx ry Q q => by
  cases rx
  cases ry
  exact ⟨i, j, rfl, rfl, hc, q.here k (hg G) rfl⟩
theorem v_add {i j : Int} (ha : EvX W K ta Γ (.int i)) (hb : EvX W K tb Γ (.int j)) : EvX W K (tOp (rI0 fun i j => .int (i + j)) ta tb) Γ (.int (i + j)) := v_opx ha hb (rv_I0 (g := fun i j => .int (i + j)) fun _ => .int _)
theorem v_sub {i j : Int} (ha : EvX W K ta Γ (.int i)) (hb : EvX W K tb Γ (.int j)) : EvX W K (tOp (rI0 fun i j => .int (i - j)) ta tb) Γ (.int (i - j)) := v_opx ha hb (rv_I0 (g := fun i j => .int (i - j)) fun _ => .int _)
theorem v_mul {i j : Int} (ha : EvX W K ta Γ (.int i)) (hb : EvX W K tb Γ (.int j)) (hc : CMul i j) : EvX W K (tOp (rI CMul fun i j => .int (i * j)) ta tb) Γ (.int (i * j)) := v_opx ha hb (rv_I (g := fun i j => .int (i * j)) (fun _ => .int _) hc)
theorem v_fdiv {i j : Int} (ha : EvX W K ta Γ (.int i)) (hb : EvX W K tb Γ (.int j)) (hc : CDiv i j) : EvX W K (tOp (rI CDiv fun i j => .int (i / j)) ta tb) Γ (.int (i / j)) := v_opx ha hb (rv_I (g := fun i j => .int (i / j)) (fun _ => .int _) hc)
theorem v_mod {i j : Int} (ha : EvX W K ta Γ (.int i)) (hb : EvX W K tb Γ (.int j)) (hc : 0 < j) : EvX W K (tOp (rI (fun _ j => 0 < j) fun i j => .int (i % j)) ta tb) Γ (.int (i % j)) := v_opx ha hb (rv_I (C := fun _ j => 0 < j) (g := fun i j => .int (i % j)) (fun _ => .int _) hc)
theorem v_lt {i j : Int} (ha : EvX W K ta Γ (.int i)) (hb : EvX W K tb Γ (.int j)) : EvX W K (tOp (rI0 fun i j => .bl (decide (i < j))) ta tb) Γ (.bl (decide (i < j))) := v_opx ha hb (rv_I0 (g := fun i j => .bl (decide (i < j))) fun _ => .bl _)
theorem v_le {i j : Int} (ha : EvX W K ta Γ (.int i)) (hb : EvX W K tb Γ (.int j)) : EvX W K (tOp (rI0 fun i j => .bl (decide (i ≤ j))) ta tb) Γ (.bl (decide (i ≤ j))) := v_opx ha hb (rv_I0 (g := fun i j => .bl (decide (i ≤ j))) fun _ => .bl _)
theorem v_gt {i j : Int} (ha : EvX W K ta Γ (.int i)) (hb : EvX W K tb Γ (.int j)) : EvX W K (tOp (rI0 fun i j => .bl (decide (j < i))) ta tb) Γ (.bl (decide (j < i))) := v_opx ha hb (rv_I0 (g := fun i j => .bl (decide (j < i))) fun _ => .bl _)
theorem v_ge {i j : Int} (ha : EvX W K ta Γ (.int i)) (hb : EvX W K tb Γ (.int j)) : EvX W K (tOp (rI0 fun i j => .bl (decide (j ≤ i))) ta tb) Γ (.bl (decide (j ≤ i))) := v_opx ha hb (rv_I0 (g := fun i j => .bl (decide (j ≤ i))) fun _ => .bl _)
/-- == of scalars by data -/
def sd : Dat → V
  | .non => .non | .bl b => .bl b | .int i => .int i | .str x => .str x | .adr a => .ref a | _ => .non
def issd : Dat → Bool
  | .non => true | .bl _ => true | .int _ => true | .str _ => true | _ => false
theorem sd_rep {v : V} {d : Dat} (h : issd d = true) (r : Rep K G v d) : v = sd d := by
  cases r <;> first | rfl | cases h
theorem rv_eq (h1 : issd a = true) (h2 : issd b = true) (hs : scal (sd a) (sd b) = true) : RV W K rEq a b (· = .bl (decide (sd a = sd b))) := fun G H x y k rx ry Q q => by
  have e1 := sd_rep h1 rx
  have e2 := sd_rep h2 ry
  subst e1 e2
  exact ⟨hs, q.here k (.bl _) rfl⟩
theorem rv_ne (h1 : issd a = true) (h2 : issd b = true) (hs : scal (sd a) (sd b) = true) : RV W K rNe a b (· = .bl (!decide (sd a = sd b))) := fun G H x y k rx ry Q q => by
  have e1 := sd_rep h1 rx
  have e2 := sd_rep h2 ry
  subst e1 e2
  exact ⟨hs, q.here k (.bl _) rfl⟩
theorem v_eqI {i j : Int} (ha : EvX W K ta Γ (.int i)) (hb : EvX W K tb Γ (.int j)) : EvX W K (tOp rEq ta tb) Γ (.bl (decide (i = j))) := by
  have h := v_opx ha hb (rv_eq (W := W) (K := K) (a := .int i) (b := .int j) rfl rfl rfl)
  have e : decide (sd (.int i) = sd (.int j)) = decide (i = j) := by
    show decide (V.int i = V.int j) = decide (i = j)
    by_cases q : i = j
    · subst q; simp
    · rw [decide_eq_false q, decide_eq_false (fun z => q (V.int.inj z))]
  rw [e] at h
  exact h
theorem v_neI {i j : Int} (ha : EvX W K ta Γ (.int i)) (hb : EvX W K tb Γ (.int j)) : EvX W K (tOp rNe ta tb) Γ (.bl (!decide (i = j))) := by
  have h := v_opx ha hb (rv_ne (W := W) (K := K) (a := .int i) (b := .int j) rfl rfl rfl)
  have e : decide (sd (.int i) = sd (.int j)) = decide (i = j) := by
    show decide (V.int i = V.int j) = decide (i = j)
    by_cases q : i = j
    · subst q; simp
    · rw [decide_eq_false q, decide_eq_false (fun z => q (V.int.inj z))]
  rw [e] at h
  exact h
theorem v_eqS {i j : Str} (ha : EvX W K ta Γ (.str i)) (hb : EvX W K tb Γ (.str j)) : EvX W K (tOp rEq ta tb) Γ (.bl (decide (i = j))) := by
  have h := v_opx ha hb (rv_eq (W := W) (K := K) (a := .str i) (b := .str j) rfl rfl rfl)
  have e : decide (sd (.str i) = sd (.str j)) = decide (i = j) := by
    show decide (V.str i = V.str j) = decide (i = j)
    by_cases q : i = j
    · subst q; simp
    · rw [decide_eq_false q, decide_eq_false (fun z => q (V.str.inj z))]
  rw [e] at h
  exact h
theorem v_eqB {i j : Bool} (ha : EvX W K ta Γ (.bl i)) (hb : EvX W K tb Γ (.bl j)) : EvX W K (tOp rEq ta tb) Γ (.bl (decide (i = j))) := by
  have h := v_opx ha hb (rv_eq (W := W) (K := K) (a := .bl i) (b := .bl j) rfl rfl rfl)
  have e : decide (sd (.bl i) = sd (.bl j)) = decide (i = j) := by
    show decide (V.bl i = V.bl j) = decide (i = j)
    by_cases q : i = j
    · subst q; simp
    · rw [decide_eq_false q, decide_eq_false (fun z => q (V.bl.inj z))]
  rw [e] at h
  exact h
theorem v_neB {i j : Bool} (ha : EvX W K ta Γ (.bl i)) (hb : EvX W K tb Γ (.bl j)) : EvX W K (tOp rNe ta tb) Γ (.bl (!decide (i = j))) := by
  have h := v_opx ha hb (rv_ne (W := W) (K := K) (a := .bl i) (b := .bl j) rfl rfl rfl)
  have e : decide (sd (.bl i) = sd (.bl j)) = decide (i = j) := by
    show decide (V.bl i = V.bl j) = decide (i = j)
    by_cases q : i = j
    · subst q; simp
    · rw [decide_eq_false q, decide_eq_false (fun z => q (V.bl.inj z))]
  rw [e] at h
  exact h
def isN : Dat → Bool
  | .non => true
  | _ => false
theorem v_isN (ha : Ev W K ta Γ P) (hp : ∀ d, P d → S (.bl (isN d))) : Ev W K (tIsN ta) Γ S := fun σ G H n k Q q =>
  ha σ G H n k _ fun x dx G2 H2 s px rx => by
    have e : decide (x = .non) = isN dx := by cases rx <;> rfl
    show Q (.bl (decide (x = .non))) H2
    rw [e]
    exact (q.step s).here (s.ok k) (.bl _) (hp dx px)
theorem v_isNx (ha : EvX W K ta Γ a) : EvX W K (tIsN ta) Γ (.bl (isN a)) := v_isN ha fun d e => by subst e; rfl
theorem v_notNx (ha : EvX W K ta Γ a) : EvX W K (tNotN ta) Γ (.bl (!(isN a))) := fun σ G H n k Q q =>
  ha σ G H n k _ fun x dx G2 H2 s px rx => by
    subst px
    have e : decide (x = .non) = isN dx := by cases rx <;> rfl
    show Q (.bl (!decide (x = .non))) H2
    rw [e]
    exact (q.step s).here (s.ok k) (.bl _) rfl

/-! ## tests -/
theorem b_test {P : Bool → Prop} (h : Ev W K te Γ fun d => ∃ b, d = .bl b ∧ P b) : EvB W K (tTest te) Γ P := fun σ G H n k Q q => h σ G H n k _ fun v d G2 H2 s ⟨b, e, p⟩ r => by
  subst e
  cases r
  exact ⟨b, rfl, q b G2 H2 s p⟩
theorem b_testx {b : Bool} (h : EvX W K te Γ (.bl b)) : EvBX W K (tTest te) Γ b := b_test (h.imp fun d e => ⟨b, e, rfl⟩)
theorem b_B {P : Bool → Prop} (h : Ev W K te Γ fun d => ∃ b, d = .bl b ∧ P b) : EvB W K (tB te) Γ P := fun σ G H n k Q q => h σ G H n k _ fun v d G2 H2 s ⟨b, e, p⟩ r => by
  subst e
  cases r
  exact ⟨b, rfl, q b G2 H2 s p⟩
theorem b_Bx {b : Bool} (h : EvX W K te Γ (.bl b)) : EvBX W K (tB te) Γ b := b_B (h.imp fun d e => ⟨b, e, rfl⟩)
theorem b_and {P R S : Bool → Prop} (h1 : EvB W K tt Γ P) (h2 : P true → EvB W K tu Γ R) (i : P false → S false) (j : ∀ b, R b → S b) : EvB W K (tAnd tt tu) Γ S := fun σ G H n k Q q =>
  h1 σ G H n k _ fun c G2 H2 s p => by
    cases c with
    | true =>
      show tu σ H2 Q
      exact h2 p σ G2 H2 (n.mono s.gg) (s.ok k) Q fun b G3 H3 t r => q b G3 H3 (s.trans t) (j b r)
    | false =>
      show Q false H2
      exact q false G2 H2 s (i p)
theorem b_andx {a b : Bool} (h1 : EvBX W K tt Γ a) (h2 : a = true → EvBX W K tu Γ b) : EvBX W K (tAnd tt tu) Γ (a && b) := by
  cases a with
  | true => exact b_and h1 (fun _ => h2 rfl) (fun e => nomatch e) (fun c e => e)
  | false => exact b_and (R := fun _ => False) h1 (fun e => nomatch e) (fun _ => rfl) (fun c e => e.elim)
theorem b_or {P R S : Bool → Prop} (h1 : EvB W K tt Γ P) (h2 : P false → EvB W K tu Γ R) (i : P true → S true) (j : ∀ b, R b → S b) : EvB W K (tOr tt tu) Γ S := fun σ G H n k Q q =>
  h1 σ G H n k _ fun c G2 H2 s p => by
    cases c with
    | false =>
      show tu σ H2 Q
      exact h2 p σ G2 H2 (n.mono s.gg) (s.ok k) Q fun b G3 H3 t r => q b G3 H3 (s.trans t) (j b r)
    | true =>
      show Q true H2
      exact q true G2 H2 s (i p)
theorem b_orx {a b : Bool} (h1 : EvBX W K tt Γ a) (h2 : a = false → EvBX W K tu Γ b) : EvBX W K (tOr tt tu) Γ (a || b) := by
  cases a with
  | false => exact b_or h1 (fun _ => h2 rfl) (fun e => nomatch e) (fun c e => e)
  | true => exact b_or (R := fun _ => False) h1 (fun e => nomatch e) (fun _ => rfl) (fun c e => e.elim)
theorem b_not {P : Bool → Prop} (h : EvB W K tt Γ fun b => P (!b)) : EvB W K (tNot tt) Γ P := fun σ G H n k Q q => h σ G H n k _ fun b G2 H2 s p => q _ G2 H2 s p
theorem b_notx {a : Bool} (h : EvBX W K tt Γ a) : EvBX W K (tNot tt) Γ (!a) := b_not (h.imp fun d e => by rw [e])
/-- and, or, not as values -/
theorem v_andx {a b : Bool} (h1 : EvX W K ta Γ (.bl a)) (h2 : a = true → EvX W K tb Γ (.bl b)) : EvX W K (tAndV ta tb) Γ (.bl (a && b)) := fun σ G H n k Q q => h1 σ G H n k _ fun v d G2 H2 s e r => by
  subst e
  cases r
  refine ⟨a, rfl, ?_⟩
  cases a with
  | true =>
    show tb σ H2 Q
    exact h2 rfl σ G2 H2 (n.mono s.gg) (s.ok k) Q (q.step s)
  | false =>
    show Q (.bl false) H2
    exact (q.step s).here (s.ok k) (.bl _) rfl
theorem v_orx {a b : Bool} (h1 : EvX W K ta Γ (.bl a)) (h2 : a = false → EvX W K tb Γ (.bl b)) : EvX W K (tOrV ta tb) Γ (.bl (a || b)) := fun σ G H n k Q q => h1 σ G H n k _ fun v d G2 H2 s e r => by
  subst e
  cases r
  refine ⟨a, rfl, ?_⟩
  cases a with
  | false =>
    show tb σ H2 Q
    exact h2 rfl σ G2 H2 (n.mono s.gg) (s.ok k) Q (q.step s)
  | true =>
    show Q (.bl true) H2
    exact (q.step s).here (s.ok k) (.bl _) rfl
theorem v_notx {a : Bool} (h1 : EvX W K ta Γ (.bl a)) : EvX W K (tNotV ta) Γ (.bl (!a)) := fun σ G H n k Q q => h1 σ G H n k _ fun v d G2 H2 s e r => by
  subst e
  cases r
  exact ⟨a, rfl, (q.step s).here (s.ok k) (.bl _) rfl⟩
theorem v_if {P : Bool → Prop} (h : EvB W K tt Γ P) (h1 : P true → Ev W K ta Γ R) (h2 : P false → Ev W K tb Γ R) : Ev W K (tIf tt ta tb) Γ R := fun σ G H n k Q q => h σ G H n k _ fun c G2 H2 s p => by
  cases c with
  | true =>
    show ta σ H2 Q
    exact h1 p σ G2 H2 (n.mono s.gg) (s.ok k) Q (q.step s)
  | false =>
    show tb σ H2 Q
    exact h2 p σ G2 H2 (n.mono s.gg) (s.ok k) Q (q.step s)
theorem v_ifx {c : Bool} (h : EvBX W K tt Γ c) (h1 : c = true → EvX W K ta Γ a) (h2 : c = false → EvX W K tb Γ b) : EvX W K (tIf tt ta tb) Γ (if c = true then a else b) := v_if h (fun e => by rw [← e]; exact h1 e.symm) (fun e => by rw [← e]; exact h2 e.symm)
/-- a chain of two comparisons of ints -/
theorem v_chain {r r' : R2} {x y z : Dat} {c1 c2 : Bool} (ha : EvX W K ta Γ x) (hb : EvX W K tb Γ y) (hc : EvX W K tc Γ z) (h1 : RV W K r x y (· = .bl c1)) (h2 : RV W K r' y z (· = .bl c2)) : EvX W K (tChain r r' ta tb tc) Γ (.bl (c1 && c2)) := fun σ G H n k Q q =>
  ha σ G H n k _ fun vx dx G2 H2 s2 ex rx => hb σ G2 H2 (n.mono s2.gg) (s2.ok k) _ fun vy dy G3 H3 s3 ey ry => by
    subst ex ey
    have k3 := s3.ok (s2.ok k)
    refine h1 G3 H3 vx vy k3 (rx.mono s3.gg) ry _ fun v4 d4 G4 H4 s4 e4 r4 => ?_
    subst e4
    cases r4
    refine ⟨c1, rfl, ?_⟩
    have s14 := (s2.trans s3).trans s4
    cases c1 with
    | true =>
      rw [if_pos rfl]
      refine hc σ G4 H4 (n.mono s14.gg) (s14.ok k) _ fun vz dz G5 H5 s5 ez rz => ?_
      subst ez
      refine h2 G5 H5 vy vz (s5.ok (s14.ok k)) (ry.mono (s4.gg.trans s5.gg)) rz Q ?_
      exact q.step (s14.trans s5)
    | false =>
      rw [if_neg Bool.false_ne_true]
      exact (q.step s14).here (s14.ok k) (.bl _) rfl
theorem r_le {i j : Int} : RV W K (rI0 fun i j => .bl (decide (i ≤ j))) (.int i) (.int j) (· = .bl (decide (i ≤ j))) := rv_I0 (g := fun i j => .bl (decide (i ≤ j))) fun _ => .bl _
theorem r_lt {i j : Int} : RV W K (rI0 fun i j => .bl (decide (i < j))) (.int i) (.int j) (· = .bl (decide (i < j))) := rv_I0 (g := fun i j => .bl (decide (i < j))) fun _ => .bl _

/-! ## arguments, displays -/
theorem a_nil : EvAX W K tNil Γ [] := fun σ G H n k Q q => q [] [] G H (Stp.refl k) rfl .nil
theorem a_cons {P : Dat → Prop} {R : List Dat → Prop} (h : Ev W K ta Γ P) (h2 : EvA W K tA Γ R) : EvA W K (tCons ta tA) Γ fun ds => ∃ d r, ds = d :: r ∧ P d ∧ R r := fun σ G H n k Q q =>
  h σ G H n k _ fun v d G2 H2 s p r => h2 σ G2 H2 (n.mono s.gg) (s.ok k) _ fun vs ds G3 H3 t pr rr => q _ _ G3 H3 (s.trans t) ⟨d, ds, rfl, p, pr⟩ (.cons (r.mono t.gg) rr)
theorem a_consx {ds : List Dat} (h : EvX W K ta Γ d) (h2 : EvAX W K tA Γ ds) : EvAX W K (tCons ta tA) Γ (d :: ds) := fun σ G H n k Q q =>
  h σ G H n k _ fun v d G2 H2 s p r => h2 σ G2 H2 (n.mono s.gg) (s.ok k) _ fun vs ds G3 H3 t pr rr => q _ _ G3 H3 (s.trans t) (by rw [p, pr]) (.cons (r.mono t.gg) rr)
theorem EvA.imp {P R : List Dat → Prop} (h : EvA W K tA Γ P) (i : ∀ d, P d → R d) : EvA W K tA Γ R := fun σ G H n k Q q => h σ G H n k Q fun v d G2 H2 s p r => q v d G2 H2 s (i d p) r
theorem sz_of {n : Nat} (h : n ≤ 100000) : n ≤ sizeLine := Nat.le_trans h (by decide)
theorem sz_lt {n : Nat} (h : n < 100000) : n < sizeLine := Nat.lt_of_lt_of_le h (by decide)
theorem v_tup {P : List Dat → Prop} (h : EvA W K tA Γ P) (hl : ∀ ds, P ds → ds.length ≤ 100000) (i : ∀ ds, P ds → S (.tup ds)) : Ev W K (tTup tA) Γ S := fun σ G H n k Q q =>
  h σ G H n k _ fun vs ds G2 H2 s p r => ⟨by rw [r.length]; exact sz_of (hl ds p), fun a ha => q _ (.tup ds) _ _ (s.trans (Stp.new (s.ok k) ha)) (i ds p) (.tup (t_of upd_same) (r.mono (Stp.new (s.ok k) (W := W) ha).gg))⟩
theorem v_tupx {ds : List Dat} (h : EvAX W K tA Γ ds) (hl : ds.length ≤ 100000) : EvX W K (tTup tA) Γ (.tup ds) := v_tup h (fun _ e => by rw [e]; exact hl) (fun _ e => by rw [e])
theorem v_lst {P : List Dat → Prop} (h : EvA W K tA Γ P) (hl : ∀ ds, P ds → ds.length ≤ 100000) (i : ∀ ds, P ds → S (.lst ds)) : Ev W K (tLst tA) Γ S := fun σ G H n k Q q =>
  h σ G H n k _ fun vs ds G2 H2 s p r => ⟨by rw [r.length]; exact sz_of (hl ds p), fun a ha => q _ (.lst ds) _ _ (s.trans (Stp.new (s.ok k) ha)) (i ds p) (.lst (l_of upd_same) (r.mono (Stp.new (s.ok k) (W := W) ha).gg))⟩
theorem v_lstx {ds : List Dat} (h : EvAX W K tA Γ ds) (hl : ds.length ≤ 100000) : EvX W K (tLst tA) Γ (.lst ds) := v_lst h (fun _ e => by rw [e]; exact hl) (fun _ e => by rw [e])
theorem n_lst {P : List Dat → Prop} (h : EvA W K tA Γ P) (hl : ∀ ds, P ds → ds.length ≤ 100000) : EvN W K (tLst tA) Γ P := fun σ G H n k Q q =>
  h σ G H n k _ fun vs ds G2 H2 s p r => ⟨by rw [r.length]; exact sz_of (hl ds p), fun a ha => by
    have g2 : G2 a = none := by
      cases e : G2 a with
      | none => rfl
      | some u =>
        rw [s.gh a u e] at ha
        cases ha
    have h0 : H a = none := by
      cases e : H a with
      | none => rfl
      | some u =>
        by_cases hm : W.m a
        · obtain ⟨z, hz⟩ := W.tr s.inv hm
          rw [hz] at ha
          cases ha
        · rw [s.hh a u hm e] at ha
          cases ha
    exact q a vs ds G2 _ (s.trans (Stp.grow (s.ok k) (Ex.new ha))) h0 g2 upd_same r p⟩
/-- a new list, known from now on -/
theorem EvN.ev {P : List Dat → Prop} (h : EvN W K te Γ P) (i : ∀ ds, P ds → S (.lst ds)) : Ev W K te Γ S := fun σ G H n k Q q =>
  h σ G H n k _ fun p xs ds G2 H2 s h0 g2 h2 r pd => by
    have gg : Ex G2 (upd G2 p (.lst xs)) := Ex.new g2
    refine q _ (.lst ds) (upd G2 p (.lst xs)) H2 ⟨s.gg.trans gg, fun a o e => ?_, s.hh, fun a o e => ?_, s.inv⟩ (i ds pd) (.lst (l_of upd_same) (r.mono gg))
    · by_cases ea : a = p
      · subst ea
        rw [upd_same] at e
        rw [h2]
        exact e
      · rw [upd_ne ea] at e
        exact s.gh a o e
    · by_cases ea : a = p
      · subst ea
        exact .inr h0
      · rw [upd_ne ea] at e
        exact s.nw a o e

/-! ## subscripts, slices -/
theorem rv_ixL {ds : List Dat} {j : Nat} (h : ds[j]? = some d) : RV W K (rIxL K) (.lst ds) (.int (j : Int)) (· = d) := fun G H x y k rx ry Q q => by
  obtain ⟨a, xs, rfl, hs, r⟩ := rx.lst_inv
  cases ry
  obtain ⟨v, h1, h2⟩ := r.get h
  exact ⟨a, xs, (j : Int), v, rfl, rfl, ex_l k.ex hs, atI_nat h1, q.here k h2 rfl⟩
theorem rv_ixT {ds : List Dat} {j : Nat} (h : ds[j]? = some d) : RV W K (rIxT K) (.tup ds) (.int (j : Int)) (· = d) := fun G H x y k rx ry Q q => by
  obtain ⟨a, xs, rfl, hs, r⟩ := rx.tup_inv
  cases ry
  obtain ⟨v, h1, h2⟩ := r.get h
  exact ⟨a, xs, (j : Int), v, rfl, rfl, ex_t k.ex hs, atI_nat h1, q.here k h2 rfl⟩
theorem v_ixL {ds : List Dat} {i : Int} {j : Nat} (ha : EvX W K ta Γ (.lst ds)) (hb : EvX W K tb Γ (.int i)) (e : i = (j : Int)) (h : ds[j]? = some d) : EvX W K (tOp (rIxL K) ta tb) Γ d := v_opx ha (e ▸ hb) (rv_ixL h)
theorem v_ixT {ds : List Dat} {i : Int} {j : Nat} (ha : EvX W K ta Γ (.tup ds)) (hb : EvX W K tb Γ (.int i)) (e : i = (j : Int)) (h : ds[j]? = some d) : EvX W K (tOp (rIxT K) ta tb) Γ d := v_opx ha (e ▸ hb) (rv_ixT h)
theorem o_none : EvO W K tNoPart Γ (· = none) := fun σ G H n k Q q => q none G H (Stp.refl k) rfl
theorem o_some {i : Int} (h : EvX W K te Γ (.int i)) : EvO W K (tPart te) Γ (· = some i) := fun σ G H n k Q q => h σ G H n k _ fun v d G2 H2 s e r => by
  subst e
  cases r
  exact ⟨i, rfl, q _ G2 H2 s rfl⟩
/-- a slice by data -/
def cutD (ds : List Dat) (lo hi : Option Int) : List Dat := (ds.drop (HT.sIx ds.length 0 lo)).take (HT.sIx ds.length ds.length hi - HT.sIx ds.length 0 lo)
theorem cut_reps {G : Hp} {xs : List V} {ds : List Dat} (r : Reps K G xs ds) (lo hi : Option Int) : Reps K G (cutV xs lo hi) (cutD ds lo hi) := by
  unfold cutV cutD
  rw [r.length]
  exact (r.drop _).take _
theorem v_slT {tl th : TO} {ds : List Dat} {lo hi : Option Int} (h : EvX W K te Γ (.tup ds)) (h1 : EvO W K tl Γ (· = lo)) (h2 : EvO W K th Γ (· = hi)) : EvX W K (tSl (rSlA K) te tl th) Γ (.tup (cutD ds lo hi)) := fun σ G H n k Q q =>
  h σ G H n k _ fun v d G2 H2 s2 e r => by
    subst e
    refine h1 σ G2 H2 (n.mono s2.gg) (s2.ok k) _ fun o_lo G3 H3 s3 e3 => ?_
    subst e3
    have k3 := s3.ok (s2.ok k)
    refine h2 σ G3 H3 (n.mono (s2.gg.trans s3.gg)) k3 _ fun o_hi G4 H4 s4 e4 => ?_
    subst e4
    have s14 := (s2.trans s3).trans s4
    obtain ⟨a, xs, rfl, hs, r⟩ := (r.mono (s3.gg.trans s4.gg)).tup_inv
    have k4 := s14.ok k
    refine ⟨a, xs, rfl, ex_t k4.ex hs, fun w => ?_, fun _ p hp => ?_⟩
    · refine (q.step s14).here k4 (.tup hs ?_) rfl
      have e : cutD ds o_lo o_hi = ds := by
        unfold cutD
        rw [← r.length, w.1, w.2]
        simp [r.length]
      rw [e]
      exact r
    · exact (q.step s14) _ _ _ _ (Stp.new k4 hp) rfl (.tup (t_of upd_same) ((cut_reps r _ _).mono (Stp.new k4 hp (W := W)).gg))

theorem n_slL {tl th : TO} {ds : List Dat} {lo hi : Option Int} (h : EvX W K te Γ (.lst ds)) (h1 : EvO W K tl Γ (· = lo)) (h2 : EvO W K th Γ (· = hi)) : EvX W K (tSl (rSlL K) te tl th) Γ (.lst (cutD ds lo hi)) := fun σ G H n k Q q =>
  h σ G H n k _ fun v d G2 H2 s2 e r => by
    subst e
    refine h1 σ G2 H2 (n.mono s2.gg) (s2.ok k) _ fun o_lo G3 H3 s3 e3 => ?_
    subst e3
    have k3 := s3.ok (s2.ok k)
    refine h2 σ G3 H3 (n.mono (s2.gg.trans s3.gg)) k3 _ fun o_hi G4 H4 s4 e4 => ?_
    subst e4
    have s14 := (s2.trans s3).trans s4
    obtain ⟨a, xs, rfl, hs, r⟩ := (r.mono (s3.gg.trans s4.gg)).lst_inv
    have k4 := s14.ok k
    refine ⟨a, xs, rfl, ex_l k4.ex hs, fun p hp => ?_⟩
    exact (q.step s14) _ _ _ _ (Stp.new k4 hp) rfl (.lst (l_of upd_same) ((cut_reps r _ _).mono (Stp.new k4 hp (W := W)).gg))
theorem cutD_to (ds : List Dat) (n : Nat) : cutD ds none (some (n : Int)) = ds.take n := by
  unfold cutD
  rw [HT.sIx_none, HT.sIx_nat, List.drop_zero, Nat.sub_zero]
  by_cases h : n ≤ ds.length
  · rw [Nat.min_eq_left h]
  · rw [Nat.min_eq_right (by omega), List.take_of_length_le (Nat.le_refl _), List.take_of_length_le (by omega)]
theorem cutD_from (ds : List Dat) (n : Nat) : cutD ds (some (n : Int)) none = ds.drop n := by
  unfold cutD
  rw [HT.sIx_none, HT.sIx_nat]
  by_cases h : n ≤ ds.length
  · rw [Nat.min_eq_left h, List.take_of_length_le]
    rw [List.length_drop]
    exact Nat.le_refl _
  · rw [Nat.min_eq_right (by omega), List.drop_of_length_le (Nat.le_refl _), List.drop_of_length_le (by omega), List.take_nil]
/-! ## sums of tuples -/
theorem v_cat {xs ys : List Dat} (ha : EvX W K ta Γ (.tup xs)) (hb : EvX W K tb Γ (.tup ys)) (hz : xs.length + ys.length ≤ 100000) : EvX W K (tOp (rCatA K) ta tb) Γ (.tup (xs ++ ys)) := v_opx ha hb fun G H x y k rx ry Q q => by
  obtain ⟨a, vs, rfl, hs, r⟩ := rx.tup_inv
  obtain ⟨b, us, rfl, ht, t⟩ := ry.tup_inv
  refine ⟨a, b, vs, us, rfl, rfl, ex_t k.ex hs, ex_t k.ex ht, by rw [r.length, t.length]; exact sz_of hz, fun e => ?_, fun _ e => ?_, fun _ _ p hp => ?_⟩
  · subst e
    cases r
    exact q.here k (.tup ht t) rfl
  · subst e
    cases t
    rw [List.append_nil] at q
    exact q.here k (.tup hs r) rfl
  · exact q _ _ _ _ (Stp.new k hp) rfl (.tup (t_of upd_same) ((r.append t).mono (Stp.new k hp (W := W)).gg))
/-! ## built-ins -/
theorem v_cb {r : List V → Hp → VK → Prop} {P : List Dat → Prop} (h : EvA W K tA Γ P) (hr : ∀ ds, P ds → RC W K r ds S) : Ev W K (tCB r tA) Γ S := fun σ G H n k Q q =>
  h σ G H n k _ fun vs ds G2 H2 s p rr => hr ds p G2 H2 vs (s.ok k) rr Q (q.step s)
theorem v_cbx {r : List V → Hp → VK → Prop} {ds : List Dat} (h : EvAX W K tA Γ ds) (hr : RC W K r ds S) : Ev W K (tCB r tA) Γ S := v_cb h fun _ e => by rw [e]; exact hr
abbrev rLen (K : PySem.W.Frag) : List V → Hp → VK → Prop := fun xs H Q => ∃ p ys, xs = [.ref p] ∧ (SqL K H p ys ∨ SqT K H p ys) ∧ Q (.int ys.length) H
theorem v_lenT {ds : List Dat} (h : EvX W K ta Γ (.tup ds)) : EvX W K (tCB (rLen K) (tCons ta tNil)) Γ (.int (ds.length : Int)) := v_cbx (a_consx h a_nil) fun G H xs k r Q q => by
  cases r with
  | cons r r0 =>
    cases r0
    obtain ⟨a, vs, rfl, hs, r⟩ := r.tup_inv
    exact ⟨a, vs, rfl, .inr (ex_t k.ex hs), by rw [r.length]; exact q.here k (.int _) rfl⟩
theorem v_lenL {ds : List Dat} (h : EvX W K ta Γ (.lst ds)) : EvX W K (tCB (rLen K) (tCons ta tNil)) Γ (.int (ds.length : Int)) := v_cbx (a_consx h a_nil) fun G H xs k r Q q => by
  cases r with
  | cons r r0 =>
    cases r0
    obtain ⟨a, vs, rfl, hs, r⟩ := r.lst_inv
    exact ⟨a, vs, rfl, .inl (ex_l k.ex hs), by rw [r.length]; exact q.here k (.int _) rfl⟩
theorem v_tupleL {P : List Dat → Prop} (h : Ev W K te Γ fun d => ∃ ds, d = .lst ds ∧ S (.tup ds)) : Ev W K (tThen te (kTup K)) Γ S := fun σ G H n k Q q =>
  h σ G H n k _ fun v d G2 H2 s ⟨ds, e, p⟩ r => by
    subst e
    obtain ⟨a, vs, rfl, hs, r⟩ := r.lst_inv
    have k2 := s.ok k
    exact .inl ⟨a, vs, rfl, ex_l k2.ex hs, fun p' hp => (q.step s) _ _ _ _ (Stp.new k2 hp) p (.tup (t_of upd_same) (r.mono (Stp.new k2 hp (W := W)).gg))⟩
theorem v_tupleLx {ds : List Dat} (h : EvX W K te Γ (.lst ds)) : EvX W K (tThen te (kTup K)) Γ (.tup ds) := v_tupleL (P := fun _ => True) (h.imp fun d e => ⟨ds, e, rfl⟩)
theorem v_tupleTx {ds : List Dat} (h : EvX W K te Γ (.tup ds)) : EvX W K (tThen te (kTup K)) Γ (.tup ds) := fun σ G H n k Q q =>
  h σ G H n k _ fun v d G2 H2 s e r => by
    subst e
    obtain ⟨a, vs, rfl, hs, r⟩ := r.tup_inv
    have k2 := s.ok k
    exact .inr ⟨a, vs, rfl, ex_t k2.ex hs, (q.step s).here k2 (.tup hs r) rfl⟩
abbrev rLst (K : PySem.W.Frag) : List V → Hp → VK → Prop := fun xs H Q => ∃ p ys, xs = [.ref p] ∧ (SqL K H p ys ∨ SqT K H p ys) ∧ ∀ l, H l = none → Q (.ref l) (upd H l (.lst ys))
theorem back {G H G2 H2 : Hp} {a : Addr} (s : Stp W G H G2 H2) (ha : H2 a = none) : H a = none ∧ G2 a = none := by
  constructor
  · cases e : H a with
    | none => rfl
    | some u =>
      by_cases hm : W.m a
      · obtain ⟨z, hz⟩ := W.tr s.inv hm
        rw [hz] at ha
        cases ha
      · rw [s.hh a u hm e] at ha
        cases ha
  · cases e : G2 a with
    | none => rfl
    | some u =>
      rw [s.gh a u e] at ha
      cases ha
theorem n_listL {ds : List Dat} (h : EvX W K ta Γ (.lst ds)) : EvN W K (tCB (rLst K) (tCons ta tNil)) Γ (· = ds) := fun σ G H n k Q q =>
  a_consx h a_nil σ G H n k _ fun vs es G2 H2 s e r => by
    subst e
    cases r with
    | cons r r0 =>
      cases r0
      obtain ⟨a, vs, rfl, hs, r⟩ := r.lst_inv
      exact ⟨a, vs, rfl, .inl (ex_l (s.ok k).ex hs), fun l hl => q l vs ds G2 _ (s.trans (Stp.grow (s.ok k) (Ex.new hl))) (back s hl).1 (back s hl).2 upd_same r rfl⟩
theorem n_listT {ds : List Dat} (h : EvX W K ta Γ (.tup ds)) : EvN W K (tCB (rLst K) (tCons ta tNil)) Γ (· = ds) := fun σ G H n k Q q =>
  a_consx h a_nil σ G H n k _ fun vs es G2 H2 s e r => by
    subst e
    cases r with
    | cons r r0 =>
      cases r0
      obtain ⟨a, vs, rfl, hs, r⟩ := r.tup_inv
      exact ⟨a, vs, rfl, .inr (ex_t (s.ok k).ex hs), fun l hl => q l vs ds G2 _ (s.trans (Stp.grow (s.ok k) (Ex.new hl))) (back s hl).1 (back s hl).2 upd_same r rfl⟩
abbrev rInt1 : List V → Hp → VK → Prop := fun xs H Q => (∃ i, xs = [.int i] ∧ Q (.int i) H) ∨ ∃ k, xs = [.bl k] ∧ Q (.int (if k then 1 else 0)) H
theorem v_int1 {i : Int} (h : EvX W K ta Γ (.int i)) : EvX W K (tCB rInt1 (tCons ta tNil)) Γ (.int i) := v_cbx (a_consx h a_nil) fun G H xs k r Q q => by
  cases r with
  | cons r r0 =>
    cases r0
    cases r
    exact .inl ⟨i, rfl, q.here k (.int _) rfl⟩
/-- all(..) of a list of truth values -/
theorem reps_bools {G : Hp} : ∀ {bs : List Bool} {xs : List V}, Reps K G xs (bs.map Dat.bl) → xs = bs.map V.bl
  | [], _, h => by
    cases h
    rfl
  | b :: bs, _, h => by
    cases h with
    | cons h r =>
      cases h
      rw [reps_bools (bs := bs) r]
      rfl
theorem v_all {bs : List Bool} (h : EvX W K ta Γ (.lst (bs.map Dat.bl))) : EvX W K (tCB (rAll K) (tCons ta tNil)) Γ (.bl (bs.all id)) := v_cbx (a_consx h a_nil) fun G H xs k r Q q => by
  cases r with
  | cons r r0 =>
    cases r0
    obtain ⟨a, vs, rfl, hs, r⟩ := r.lst_inv
    rw [reps_bools r] at hs
    exact ⟨a, bs, rfl, ex_l k.ex hs, q.here k (.bl _) rfl⟩
/-- isinstance(x, T) -/
def tyN : Dat → String
  | .non => "NoneType" | .bl _ => "bool" | .int _ => "int" | .str _ => "str" | .tup _ => "tuple" | .lst _ => "list" | _ => "object"
def typed : Dat → Bool
  | .adr _ => false | .obj _ _ => false | .dct _ => false | _ => true
theorem ty_t {H : Hp} {a : Addr} {xs : List V} (h : SqT K H a xs) : TyX K H (.ref a) (.type "tuple") := by
  rcases h with (h | ⟨o, h⟩) | ⟨o, its, n, h, c, _⟩
  · exact .base (.tup h)
  · exact .fTuple h
  · exact .kTuple h c
theorem ty_l {H : Hp} {a : Addr} {xs : List V} (h : SqL K H a xs) : TyX K H (.ref a) (.type "list") := by
  rcases h with (h | ⟨o, h⟩) | ⟨o, its, n, h, c, _⟩
  · exact .base (.lst h)
  · exact .base (.frz h)
  · exact .kList h c
theorem ty_x {G H : Hp} {v : V} {d : Dat} (e : Ex G H) (ht : typed d = true) (r : Rep K G v d) : TyX K H v (.type (tyN d)) := by
  cases r with
  | non => exact .base .non
  | bl b => exact .base (.bl b)
  | int i => exact .base (.int i)
  | str x => exact .base (.str x)
  | adr a => cases ht
  | tup h _ => exact ty_t (ex_t e h)
  | lst h _ => exact ty_l (ex_l e h)
  | obj _ _ => cases ht
  | dct _ _ => cases ht
theorem v_isi {T : String} {c : Bool} (h : EvX W K ta Γ d) (ht : typed d = true) (hk : PySem.W.kitOne K (.type (tyN d)) (.type T) = some c) : EvX W K (tCB (rIsi K) (tCons ta (tCons (tC (.ty T)) tNil))) Γ (.bl c) := fun σ G H n k Q q =>
  h σ G H n k _ fun v d G2 H2 s e r => by
    subst e
    exact ⟨v, .ty T, _, _, c, rfl, .ty T, ty_x (s.ok k).ex ht r, hk, (q.step s).here (s.ok k) (.bl _) rfl⟩
end
end Ly

set_option maxHeartbeats 2000000
namespace Ly
open PySem L2

/-! ## promises -/
/-- what a def's arguments are, and what its value is -/
abbrev Sig := List Dat → (Dat → Prop) → Prop
def spOf (W : Wd) (K : PySem.W.Frag) (A : Sig) : Sp := fun vs H Q _ => ∃ G ds P, Ok W G H ∧ Reps K G vs ds ∧ A ds P ∧ Go W K G H P Q
theorem spOf_len {W : Wd} {K : PySem.W.Frag} {A : Sig} {n : Nat} (h : ∀ ds P, A ds P → ds.length = n) : ∀ vs H Q E, spOf W K A vs H Q E → vs.length = n := fun vs H Q E ⟨G, ds, P, _, r, a, _⟩ => r.length.trans (h ds P a)

section
variable {W : Wd} {K : PySem.W.Frag} {Γ : List (Option Dat)} {ta tb tc te : TE} {tt tu : TT} {tA : TA} {P R S : Dat → Prop} {a b d e : Dat} {G H G2 H2 : Hp}
/-- a call of a def whose promise is over no world, and over the own one -/
theorem v_call0 {A : Sig} {E : XK} {R : List Dat → Prop} (h : EvA W K tA Γ R) (hs : ∀ ds, R ds → A ds P) : Ev W K (tCall (spOf Wd0 K A) [] E tA) Γ P := fun σ G H n k Q q =>
  h σ G H n k _ fun vs ds G2 H2 s p r => by
    rw [List.append_nil]
    exact ⟨G2, ds, P, (s.ok k).pure, r, hs ds p, fun v d G3 H3 t pd rd => q v d G3 H3 (s.trans (Stp.of0 (s.ok k) t)) pd rd⟩
theorem v_callW {A : Sig} {E : XK} {R : List Dat → Prop} (h : EvA W K tA Γ R) (hs : ∀ ds, R ds → A ds P) : Ev W K (tCall (spOf W K A) [] E tA) Γ P := fun σ G H n k Q q =>
  h σ G H n k _ fun vs ds G2 H2 s p r => by
    rw [List.append_nil]
    exact ⟨G2, ds, P, s.ok k, r, hs ds p, q.step s⟩
theorem v_call0x {A : Sig} {E : XK} {ds : List Dat} (h : EvAX W K tA Γ ds) (hs : A ds P) : Ev W K (tCall (spOf Wd0 K A) [] E tA) Γ P := v_call0 h fun _ e => by rw [e]; exact hs
theorem v_callWx {A : Sig} {E : XK} {ds : List Dat} (h : EvAX W K tA Γ ds) (hs : A ds P) : Ev W K (tCall (spOf W K A) [] E tA) Γ P := v_callW h fun _ e => by rw [e]; exact hs

/-! ## the state of a body -/
/-- a list of the body's own, at l: its items ds -/
structure Own (W : Wd) (K : PySem.W.Frag) (H0 G H : Hp) (l : Addr) (ds : List Dat) : Prop where
  g : G l = none
  h0 : H0 l = none
  m : ¬ W.m l
  at' : ∃ xs, H l = some (.lst xs) ∧ Reps K G xs ds
structure S4 (W : Wd) (K : PySem.W.Frag) (G1 G0 H0 : Hp) (Γ : List (Option Dat)) (O : List (Addr × List Dat)) (σ : L2.St) (G H : Hp) : Prop where
  env : Env K G σ Γ
  ok : Ok W G H
  stp : Stp W G0 H0 G H
  own : ∀ l ds, (l, ds) ∈ O → Own W K H0 G H l ds
  nd : (O.map (·.1)).Nodup
  fr : Ex G1 G
variable {G1 G0 H0 : Hp} {O O' : List (Addr × List Dat)} {σ : L2.St} {D : Ends} {tz ts t1 t2 : TS}
theorem Own.step {l : Addr} {ds : List Dat} (o : Own W K H0 G H l ds) (s : Stp W G H G2 H2) : Own W K H0 G2 H2 l ds := by
  obtain ⟨xs, h1, h2⟩ := o.at'
  refine ⟨?_, o.h0, o.m, xs, s.hh l _ o.m h1, h2.mono s.gg⟩
  cases e : G2 l with
  | none => rfl
  | some u =>
    rcases s.nw l u e with q | q
    · rw [o.g] at q
      cases q
    · rw [h1] at q
      cases q
theorem S4.step (S : S4 W K G1 G0 H0 Γ O σ G H) (s : Stp W G H G2 H2) : S4 W K G1 G0 H0 Γ O σ G2 H2 :=
  ⟨S.env.mono s.gg, s.ok S.ok, S.stp.trans s, fun l ds h => (S.own l ds h).step s, S.nd, S.fr.trans s.gg⟩
theorem S4.weak {Γ' : List (Option Dat)} (w : Wk Γ Γ') (S : S4 W K G1 G0 H0 Γ O σ G H) : S4 W K G1 G0 H0 Γ' O σ G H := ⟨S.env.weak w, S.ok, S.stp, S.own, S.nd, S.fr⟩
theorem S4.set {i : Nat} {v : V} (r : Rep K G v d) (S : S4 W K G1 G0 H0 Γ O σ G H) : S4 W K G1 G0 H0 (Γ.set i (some d)) O (σ.set i (some v)) G H := ⟨S.env.set r, S.ok, S.stp, S.own, S.nd, S.fr⟩
theorem S4.start {N : List Str} {vs : List V} {ds : List Dat} (k : Ok W G H) (r : Reps K G vs ds) : S4 W K G G H (ds.map some ++ List.replicate (N.length - ds.length) Option.none) [] (L2.start N vs) G H :=
  ⟨env_start r, k, Stp.refl k, (fun _ _ h => nomatch h), List.nodup_nil, Ex.refl _⟩

/-! ### statements -/
theorem g_set {i : Nat} (h : Ev W K te Γ P) (S : S4 W K G1 G0 H0 Γ O σ G H) (k : ∀ d σ2 G2 H2, P d → S4 W K G1 G0 H0 (Γ.set i (some d)) O σ2 G2 H2 → D.nx σ2 H2) : tAsg te (gName i) D σ H :=
  h σ G H S.env S.ok _ fun v d G2 H2 s p r => k d _ G2 H2 p ((S.step s).set r)
theorem q_set {i : Nat} (h : Ev W K te Γ P) (S : S4 W K G1 G0 H0 Γ O σ G H) (k : ∀ d σ2 G2 H2, P d → S4 W K G1 G0 H0 (Γ.set i (some d)) O σ2 G2 H2 → tz D σ2 H2) : tSeq (tAsg te (gName i)) tz D σ H := g_set (D := { D with nx := tz D }) h S k
theorem g_setx {i : Nat} (h : EvX W K te Γ d) (S : S4 W K G1 G0 H0 Γ O σ G H) (k : ∀ σ2 G2 H2, S4 W K G1 G0 H0 (Γ.set i (some d)) O σ2 G2 H2 → D.nx σ2 H2) : tAsg te (gName i) D σ H := g_set h S fun d' σ2 G2 H2 e => by
  subst e
  exact k σ2 G2 H2
theorem q_setx {i : Nat} (h : EvX W K te Γ d) (S : S4 W K G1 G0 H0 Γ O σ G H) (k : ∀ σ2 G2 H2, S4 W K G1 G0 H0 (Γ.set i (some d)) O σ2 G2 H2 → tz D σ2 H2) : tSeq (tAsg te (gName i)) tz D σ H := g_setx (D := { D with nx := tz D }) h S k
/-- x = a new list, to be the body's own -/
theorem g_setN {i : Nat} {P : List Dat → Prop} (h : EvN W K te Γ P) (S : S4 W K G1 G0 H0 Γ O σ G H) (k : ∀ l ds σ2 G2 H2, P ds → S4 W K G1 G0 H0 (Γ.set i (some (.adr l))) ((l, ds) :: O) σ2 G2 H2 → D.nx σ2 H2) : tAsg te (gName i) D σ H :=
  h σ G H S.env S.ok _ fun p xs ds G2 H2 s h0 g2 h2 r pd => by
    have S2 := (S.step s).set (i := i) (Rep.adr p)
    refine k p ds _ G2 H2 pd ⟨S2.env, S2.ok, S2.stp, fun l es hm => ?_, ?_, S2.fr⟩
    · rcases List.mem_cons.mp hm with e | hm
      · cases e
        refine ⟨g2, ?_, fun hmm => ?_, xs, h2, r⟩
        · exact (back S.stp h0).1
        · obtain ⟨z, hz⟩ := W.tr S.ok.inv hmm
          rw [hz] at h0
          cases h0
      · exact S2.own l es hm
    · rw [List.map_cons, List.nodup_cons]
      refine ⟨fun hm => ?_, S.nd⟩
      obtain ⟨⟨l, es⟩, h1, e⟩ := List.mem_map.mp hm
      have e : l = p := e
      subst e
      obtain ⟨ys, hy, _⟩ := (S.own _ _ h1).at'
      rw [hy] at h0
      cases h0

theorem q_setN {i : Nat} {P : List Dat → Prop} (h : EvN W K te Γ P) (S : S4 W K G1 G0 H0 Γ O σ G H) (k : ∀ l ds σ2 G2 H2, P ds → S4 W K G1 G0 H0 (Γ.set i (some (.adr l))) ((l, ds) :: O) σ2 G2 H2 → tz D σ2 H2) : tSeq (tAsg te (gName i)) tz D σ H := g_setN (D := { D with nx := tz D }) h S k
theorem g_ret (h : Ev W K te Γ P) (S : S4 W K G1 G0 H0 Γ O σ G H) (k : Go W K G0 H0 P D.rt) : tRet te D σ H :=
  h σ G H S.env S.ok _ fun v d G2 H2 s p r => k v d G2 H2 (S.stp.trans s) p r
theorem g_drop (h : Ev W K te Γ P) (S : S4 W K G1 G0 H0 Γ O σ G H) (k : ∀ G2 H2, S4 W K G1 G0 H0 Γ O σ G2 H2 → D.nx σ H2) : tDrop te D σ H :=
  h σ G H S.env S.ok _ fun v d G2 H2 s p r => k G2 H2 (S.step s)
theorem q_drop (h : Ev W K te Γ P) (S : S4 W K G1 G0 H0 Γ O σ G H) (k : ∀ G2 H2, S4 W K G1 G0 H0 Γ O σ G2 H2 → tz D σ H2) : tSeq (tDrop te) tz D σ H := g_drop (D := { D with nx := tz D }) h S k
theorem g_if {P : Bool → Prop} (h : EvB W K tt Γ P) (S : S4 W K G1 G0 H0 Γ O σ G H) (k1 : P true → ∀ G2 H2, S4 W K G1 G0 H0 Γ O σ G2 H2 → t1 D σ H2) (k2 : P false → ∀ G2 H2, S4 W K G1 G0 H0 Γ O σ G2 H2 → t2 D σ H2) : tIfS tt t1 t2 D σ H :=
  h σ G H S.env S.ok _ fun b G2 H2 s p => by
    cases b with
    | true =>
      show t1 D σ H2
      exact k1 p G2 H2 (S.step s)
    | false =>
      show t2 D σ H2
      exact k2 p G2 H2 (S.step s)
theorem q_if {P : Bool → Prop} (h : EvB W K tt Γ P) (S : S4 W K G1 G0 H0 Γ O σ G H) (k1 : P true → ∀ G2 H2, S4 W K G1 G0 H0 Γ O σ G2 H2 → t1 { D with nx := tz D } σ H2) (k2 : P false → ∀ G2 H2, S4 W K G1 G0 H0 Γ O σ G2 H2 → t2 { D with nx := tz D } σ H2) : tSeq (tIfS tt t1 t2) tz D σ H := g_if (D := { D with nx := tz D }) h S k1 k2
theorem q_when {P : Bool → Prop} (h : EvB W K tt Γ P) (S : S4 W K G1 G0 H0 Γ O σ G H) (k1 : P true → ∀ G2 H2, S4 W K G1 G0 H0 Γ O σ G2 H2 → t1 { D with nx := tz D } σ H2) (k2 : P false → ∀ G2 H2, S4 W K G1 G0 H0 Γ O σ G2 H2 → tz D σ H2) : tSeq (tIfS tt t1 tNext) tz D σ H := g_if (D := { D with nx := tz D }) h S k1 k2
/-- a statement, then the rest from a word between them -/
theorem q_cut {tu : TS} (M : L2.St → Hp → Prop) (h : tu { D with nx := M } σ H) (k : ∀ σ' H', M σ' H' → tz D σ' H') : Evl.tCut tu tz D σ H := ⟨M, h, k⟩

/-! ### own lists -/
/-- the own list is known from now on -/
theorem S4.keepX {l : Addr} {ds : List Dat} {i : Nat} (hi : Γ[i]? = some (some (.adr l))) (S : S4 W K G1 G0 H0 Γ ((l, ds) :: O) σ G H) : ∃ G2, S4 W K G1 G0 H0 (Γ.set i (some (.lst ds))) O σ G2 H ∧ ∃ xs, G2 l = some (.lst xs) ∧ Reps K G2 xs ds := by
  have o := S.own l ds List.mem_cons_self
  obtain ⟨xs, h1, h2⟩ := o.at'
  have gg : Ex G (upd G l (.lst xs)) := Ex.new o.g
  have s : Stp W G0 H0 (upd G l (.lst xs)) H := ⟨S.stp.gg.trans gg, fun a u e => by
      by_cases ea : a = l
      · subst ea
        rw [upd_same] at e
        rw [h1]
        exact e
      · rw [upd_ne ea] at e
        exact S.ok.ex a u e, S.stp.hh, fun a u e => by
      by_cases ea : a = l
      · subst ea
        exact .inr o.h0
      · rw [upd_ne ea] at e
        exact S.stp.nw a u e, S.stp.inv⟩
  refine ⟨upd G l (.lst xs), ⟨?_, ⟨s.gh, s.inv, fun a ha => ?_⟩, s, fun l2 es hm => ?_, ?_, S.fr.trans gg⟩, xs, upd_same, h2.mono gg⟩
  · obtain ⟨v, e1, e2⟩ := S.env.at' i _ hi
    have e3 := e2.adr_inv
    subst e3
    have q : Env K (upd G l (.lst xs)) (σ.set i (some (.ref l))) (Γ.set i (some (.lst ds))) := (S.env.mono gg).set (.lst (l_of upd_same) (h2.mono gg))
    have e4 : σ.set i (some (.ref l)) = σ := by
      apply List.ext_getElem?
      intro j
      by_cases hj : i = j
      · subst hj
        have hlt : i < σ.length := by
          rcases Nat.lt_or_ge i σ.length with q | q
          · exact q
          · rw [List.getElem?_eq_none q] at e1
            cases e1
        rw [List.getElem?_set_self hlt, e1]
      · rw [List.getElem?_set_ne hj]
    rw [e4] at q
    exact q
  · have ne : a ≠ l := fun e => o.m (e ▸ ha)
    rw [upd_ne ne]
    exact S.ok.off a ha
  · have ne : l2 ≠ l := fun e => by
      have nd := S.nd
      rw [List.map_cons, List.nodup_cons] at nd
      subst e
      exact nd.1 (List.mem_map.mpr ⟨(l2, es), hm, rfl⟩)
    have o2 := S.own l2 es (List.mem_cons_of_mem _ hm)
    obtain ⟨ys, y1, y2⟩ := o2.at'
    exact ⟨by rw [upd_ne ne]; exact o2.g, o2.h0, o2.m, ys, y1, y2.mono gg⟩
  · have nd := S.nd
    rw [List.map_cons, List.nodup_cons] at nd
    exact nd.2
theorem S4.keep {l : Addr} {ds : List Dat} {i : Nat} (hi : Γ[i]? = some (some (.adr l))) (S : S4 W K G1 G0 H0 Γ ((l, ds) :: O) σ G H) : ∃ G2, S4 W K G1 G0 H0 (Γ.set i (some (.lst ds))) O σ G2 H := by
  obtain ⟨G2, S2, _⟩ := S4.keepX hi S
  exact ⟨G2, S2⟩
/-- the own list at l is changed -/
theorem S4.put {l : Addr} {ds es : List Dat} {ys : List V} (S : S4 W K G1 G0 H0 Γ ((l, ds) :: O) σ G H) (r : Reps K G ys es) : S4 W K G1 G0 H0 Γ ((l, es) :: O) σ G (upd H l (.lst ys)) := by
  have o := S.own l ds List.mem_cons_self
  obtain ⟨xs, h1, h2⟩ := o.at'
  have eg : Ex G (upd H l (.lst ys)) := fun a u e => by
    rw [upd_ne (ne_of_none e o.g)]
    exact S.ok.ex a u e
  have inv : W.I (upd H l (.lst ys)) := W.loc S.ok.inv fun a ha => upd_ne fun e => o.m (e ▸ ha)
  refine ⟨S.env, ⟨eg, inv, S.ok.off⟩, ⟨S.stp.gg, eg, fun a u hm e => ?_, S.stp.nw, inv⟩, fun l2 zs hm => ?_, S.nd, S.fr⟩
  · rw [upd_ne (ne_of_none e o.h0)]
    exact S.stp.hh a u hm e
  · rcases List.mem_cons.mp hm with e | hm'
    · cases e
      exact ⟨o.g, o.h0, o.m, ys, upd_same, r⟩
    · have ne : l2 ≠ l := fun e => by
        have nd := S.nd
        rw [List.map_cons, List.nodup_cons] at nd
        subst e
        exact nd.1 (List.mem_map.mpr ⟨(l2, zs), hm', rfl⟩)
      have o2 := S.own l2 zs (List.mem_cons_of_mem _ hm')
      obtain ⟨y, y1, y2⟩ := o2.at'
      exact ⟨o2.g, o2.h0, o2.m, y, by rw [upd_ne ne]; exact y1, y2⟩

/-- xs.append(e), xs the own list -/
theorem g_app {l : Addr} {ds : List Dat} (ho : EvX W K ta Γ (.adr l)) (h : Ev W K te Γ P) (S : S4 W K G1 G0 H0 Γ ((l, ds) :: O) σ G H) (hz : ds.length < 100000) (k : ∀ d G2 H2, P d → S4 W K G1 G0 H0 Γ ((l, ds ++ [d]) :: O) σ G2 H2 → D.nx σ H2) :
    tDrop (tBM K "list" rAppend ta (tCons te tNil)) D σ H := ho σ G H S.env S.ok _ fun v d G2 H2 s e r => by
  subst e
  cases r
  have S2 := S.step s
  obtain ⟨xs, h1, _⟩ := (S2.own l ds List.mem_cons_self).at'
  refine ⟨.inl ⟨rfl, xs, l_of h1⟩, ?_⟩
  refine h σ G2 H2 S2.env S2.ok _ fun y dy G3 H3 s3 py ry => ?_
  have S3 := S2.step s3
  obtain ⟨ys, h3, h4⟩ := (S3.own l ds List.mem_cons_self).at'
  refine ⟨l, ys, y, rfl, rfl, h3, by rw [h4.length]; exact sz_lt hz, ?_⟩
  exact k dy G3 _ py (S3.put (h4.append (.cons ry .nil)))
theorem q_app {l : Addr} {ds : List Dat} (ho : EvX W K ta Γ (.adr l)) (h : Ev W K te Γ P) (S : S4 W K G1 G0 H0 Γ ((l, ds) :: O) σ G H) (hz : ds.length < 100000) (k : ∀ d G2 H2, P d → S4 W K G1 G0 H0 Γ ((l, ds ++ [d]) :: O) σ G2 H2 → tz D σ H2) :
    tSeq (tDrop (tBM K "list" rAppend ta (tCons te tNil))) tz D σ H := g_app (D := { D with nx := tz D }) ho h S hz k
/-- x, y = divmod(..) and the like: a tuple of n values is taken apart; the slots js -/
def setsG (Γ : List (Option Dat)) : List Nat → List Dat → List (Option Dat)
  | j :: js, d :: ds => setsG (Γ.set j (some d)) js ds
  | _, _ => Γ
def gNames : List Nat → TGs
  | [] => gNil
  | j :: js => gCons (gName j) (gNames js)
theorem gNames_run {js : List Nat} {Q : L2.St → Hp → Prop} : ∀ {js : List Nat} {xs : List V} {ds : List Dat} {Γ : List (Option Dat)} {σ : L2.St}, Reps K G xs ds → js.length = ds.length → S4 W K G1 G0 H0 Γ O σ G H → (∀ σ2, S4 W K G1 G0 H0 (setsG Γ js ds) O σ2 G H → Q σ2 H) → gNames js xs σ H Q
  | [], _, _, _, _, .nil, _, S, k => ⟨rfl, k _ S⟩
  | j :: js, _, _, _, _, .nil, hl, _, _ => by cases hl
  | [], _, _, _, _, .cons _ _, hl, _, _ => by cases hl
  | j :: js, _, _, _, _, .cons (v := v) (vs := vs) r rs, hl, S, k => ⟨v, vs, rfl, gNames_run (js := js) rs (by simpa using hl) (S.set r) k⟩
theorem g_tup {js : List Nat} {n : Nat} {ds : List Dat} (h : EvX W K te Γ (.tup ds)) (hn : ds.length = n) (hj : js.length = n) (S : S4 W K G1 G0 H0 Γ O σ G H) (k : ∀ σ2 G2 H2, S4 W K G1 G0 H0 (setsG Γ js ds) O σ2 G2 H2 → D.nx σ2 H2) : tAsg te (gTup K n (gNames js)) D σ H :=
  h σ G H S.env S.ok _ fun v d G2 H2 s e r => by
    subst e
    obtain ⟨a, xs, rfl, hs, r⟩ := r.tup_inv
    have S2 := S.step s
    exact ⟨a, xs, rfl, ex_t S2.ok.ex hs, by rw [r.length]; exact hn, gNames_run (js := js) r (hj.trans hn.symm) S2 fun σ2 S3 => k σ2 G2 H2 S3⟩
theorem q_tup {js : List Nat} {n : Nat} {ds : List Dat} (h : EvX W K te Γ (.tup ds)) (hn : ds.length = n) (hj : js.length = n) (S : S4 W K G1 G0 H0 Γ O σ G H) (k : ∀ σ2 G2 H2, S4 W K G1 G0 H0 (setsG Γ js ds) O σ2 G2 H2 → tz D σ2 H2) : tSeq (tAsg te (gTup K n (gNames js))) tz D σ H :=
  g_tup (D := { D with nx := tz D }) h hn hj S k

/-! ### loops: a word of the turn -/
abbrev Word (W : Wd) (K : PySem.W.Frag) (G1 G0 H0 : Hp) (I : List (Option Dat) → List (Addr × List Dat) → Prop) : L2.St → Hp → Prop := fun σ H => ∃ Γ O G, I Γ O ∧ S4 W K G1 G0 H0 Γ O σ G H
theorem g_forR {lo : Int} {n : Nat} {j : Nat} {tb : TS} (I : Nat → List (Option Dat) → List (Addr × List Dat) → Prop) (h0 : I 0 Γ O) (S : S4 W K G1 G0 H0 Γ O σ G H)
    (hs : ∀ (i : Nat) Γ' O' σ' G' H', i < n → I i Γ' O' → S4 W K G1 G0 H0 (Γ'.set j (some (.int (lo + i)))) O' σ' G' H' → tb { D with nx := Word W K G1 G0 H0 (I (i + 1)), ct := Word W K G1 G0 H0 (I (i + 1)), bk := D.nx } σ' H')
    (hd : ∀ Γ' O' σ' G' H', I n Γ' O' → S4 W K G1 G0 H0 Γ' O' σ' G' H' → D.nx σ' H') :
    ∃ W' : Nat → Nat → L2.St → Hp → Prop, (∃ m, W' 0 m σ H) ∧ ∀ i m σ H, W' i m σ H → ((Itr lo n).stop i H ∧ D.nx σ H) ∨ ((Itr lo n).go i H ∧ ∃ N : L2.St → Hp → Prop, (∀ σ' H', N σ' H' → ∃ m', m' < m ∧ W' (i + 1) m' σ' H') ∧ ∀ x H', (Itr lo n).yld i H x H' → gName j x σ H' fun σ2 H2 => tb { D with nx := N, ct := N, bk := D.nx } σ2 H2) :=
  for_range (fun i σ H => Word W K G1 G0 H0 (I i) σ H) ⟨Γ, O, G, h0, S⟩ (fun i σ' H' hi ⟨Γ', O', G', hI, S'⟩ => hs i Γ' O' _ G' H' hi hI (S'.set (.int _))) (fun σ' H' ⟨Γ', O', G', hI, S'⟩ => hd Γ' O' σ' G' H' hI S')
theorem g_for1 {n : Int} {j : Nat} {tb : TS} (h : EvAX W K tA Γ [.int n]) (hn : n ≤ 100000) (S : S4 W K G1 G0 H0 Γ O σ G H) (I : Nat → List (Option Dat) → List (Addr × List Dat) → Prop) (h0 : I 0 Γ O)
    (hs : ∀ (i : Nat) Γ' O' σ' G' H', (i : Int) < n → I i Γ' O' → S4 W K G1 G0 H0 (Γ'.set j (some (.int (i : Int)))) O' σ' G' H' → tb { D with nx := Word W K G1 G0 H0 (I (i + 1)), ct := Word W K G1 G0 H0 (I (i + 1)), bk := D.nx } σ' H')
    (hd : ∀ Γ' O' σ' G' H', I n.toNat Γ' O' → S4 W K G1 G0 H0 Γ' O' σ' G' H' → D.nx σ' H') (hn0 : -100000 ≤ n) : tFor (iRng1 tA) (gName j) tb D σ H :=
  h σ G H S.env S.ok _ fun vs ds G2 H2 s e r => by
    subst e
    cases r with
    | cons r r0 =>
      cases r0
      cases r
      refine ⟨n, rfl, by omega, by omega, g_forR (lo := 0) I h0 (S.step s) (fun i Γ' O' σ' G' H' hi hI S' => ?_) hd⟩
      rw [Int.zero_add] at S'
      exact hs i Γ' O' σ' G' H' (by omega) hI S'
theorem q_for1 {n : Int} {j : Nat} {tb : TS} (h : EvAX W K tA Γ [.int n]) (hn : n ≤ 100000) (S : S4 W K G1 G0 H0 Γ O σ G H) (I : Nat → List (Option Dat) → List (Addr × List Dat) → Prop) (h0 : I 0 Γ O)
    (hs : ∀ (i : Nat) Γ' O' σ' G' H', (i : Int) < n → I i Γ' O' → S4 W K G1 G0 H0 (Γ'.set j (some (.int (i : Int)))) O' σ' G' H' → tb { D with nx := Word W K G1 G0 H0 (I (i + 1)), ct := Word W K G1 G0 H0 (I (i + 1)), bk := tz D } σ' H')
    (hd : ∀ Γ' O' σ' G' H', I n.toNat Γ' O' → S4 W K G1 G0 H0 Γ' O' σ' G' H' → tz D σ' H') (hn0 : -100000 ≤ n) : tSeq (tFor (iRng1 tA) (gName j) tb) tz D σ H :=
  g_for1 (D := { D with nx := tz D }) h hn S I h0 hs hd hn0
theorem S4.base {G2 : Hp} (e : Ex G2 G1) (S : S4 W K G1 G0 H0 Γ O σ G H) : S4 W K G2 G0 H0 Γ O σ G H := ⟨S.env, S.ok, S.stp, S.own, S.nd, e.trans S.fr⟩
theorem S4.here (S : S4 W K G1 G0 H0 Γ O σ G H) : S4 W K G G0 H0 Γ O σ G H := ⟨S.env, S.ok, S.stp, S.own, S.nd, Ex.refl _⟩
/-- over a list, a tuple that is known -/
theorem g_forL {ds : List Dat} {tl : TE} {j : Nat} {tb : TS} (h : EvX W K tl Γ (.lst ds)) (S : S4 W K G1 G0 H0 Γ O σ G H) (I : Nat → List (Option Dat) → List (Addr × List Dat) → Prop) (h0 : I 0 Γ O)
    (hs : ∀ G1 (i : Nat) d Γ' O' σ' G' H', ds[i]? = some d → I i Γ' O' → S4 W K G1 G0 H0 (Γ'.set j (some d)) O' σ' G' H' → tb { D with nx := Word W K G1 G0 H0 (I (i + 1)), ct := Word W K G1 G0 H0 (I (i + 1)), bk := D.nx } σ' H')
    (hd : ∀ Γ' O' σ' G' H', I ds.length Γ' O' → S4 W K G1 G0 H0 Γ' O' σ' G' H' → D.nx σ' H') : tFor (iList K tl) (gName j) tb D σ H :=
  h σ G H S.env S.ok _ fun v d G2 H2 s e r => by
    subst e
    obtain ⟨a, xs, rfl, hx, r⟩ := r.lst_inv
    have S2 := S.step s
    have hl := r.length
    refine ⟨a, rfl, ⟨xs, ex_l S2.ok.ex hx⟩, for_list (fun i σ' H' => Word W K G2 G0 H0 (I i) σ' H') ⟨Γ, O, G2, h0, S2.here⟩ (fun i σ' H' _ ⟨Γ', O', G', _, S'⟩ => ex_l (S'.fr.trans S'.ok.ex) hx) (fun i x σ' H' hi ⟨Γ', O', G', hI, S'⟩ => ?_) (fun σ' H' ⟨Γ', O', G', hI, S'⟩ => hd Γ' O' σ' G' H' (by rw [← hl]; exact hI) (S'.base S2.fr))⟩
    obtain ⟨d, hd', rd⟩ := r.getV hi
    exact hs G2 i d Γ' O' _ G' H' hd' hI (S'.set (rd.mono S'.fr))
theorem q_forL {ds : List Dat} {tl : TE} {j : Nat} {tb : TS} (h : EvX W K tl Γ (.lst ds)) (S : S4 W K G1 G0 H0 Γ O σ G H) (I : Nat → List (Option Dat) → List (Addr × List Dat) → Prop) (h0 : I 0 Γ O)
    (hs : ∀ G1 (i : Nat) d Γ' O' σ' G' H', ds[i]? = some d → I i Γ' O' → S4 W K G1 G0 H0 (Γ'.set j (some d)) O' σ' G' H' → tb { D with nx := Word W K G1 G0 H0 (I (i + 1)), ct := Word W K G1 G0 H0 (I (i + 1)), bk := tz D } σ' H')
    (hd : ∀ Γ' O' σ' G' H', I ds.length Γ' O' → S4 W K G1 G0 H0 Γ' O' σ' G' H' → tz D σ' H') : tSeq (tFor (iList K tl) (gName j) tb) tz D σ H :=
  g_forL (D := { D with nx := tz D }) h S I h0 hs hd
theorem g_forT {ds : List Dat} {tl : TE} {j : Nat} {tb : TS} (h : EvX W K tl Γ (.tup ds)) (S : S4 W K G1 G0 H0 Γ O σ G H) (I : Nat → List (Option Dat) → List (Addr × List Dat) → Prop) (h0 : I 0 Γ O)
    (hs : ∀ G1 (i : Nat) d Γ' O' σ' G' H', ds[i]? = some d → I i Γ' O' → S4 W K G1 G0 H0 (Γ'.set j (some d)) O' σ' G' H' → tb { D with nx := Word W K G1 G0 H0 (I (i + 1)), ct := Word W K G1 G0 H0 (I (i + 1)), bk := D.nx } σ' H')
    (hd : ∀ Γ' O' σ' G' H', I ds.length Γ' O' → S4 W K G1 G0 H0 Γ' O' σ' G' H' → D.nx σ' H') : tFor (iTup K tl) (gName j) tb D σ H :=
  h σ G H S.env S.ok _ fun v d G2 H2 s e r => by
    subst e
    obtain ⟨a, xs, rfl, hx, r⟩ := r.tup_inv
    have S2 := S.step s
    have hl := r.length
    refine ⟨a, rfl, ⟨xs, ex_t S2.ok.ex hx⟩, for_tup (fun i σ' H' => Word W K G2 G0 H0 (I i) σ' H') ⟨Γ, O, G2, h0, S2.here⟩ (fun i σ' H' _ ⟨Γ', O', G', _, S'⟩ => ex_t (S'.fr.trans S'.ok.ex) hx) (fun i x σ' H' hi ⟨Γ', O', G', hI, S'⟩ => ?_) (fun σ' H' ⟨Γ', O', G', hI, S'⟩ => hd Γ' O' σ' G' H' (by rw [← hl]; exact hI) (S'.base S2.fr))⟩
    obtain ⟨d, hd', rd⟩ := r.getV hi
    exact hs G2 i d Γ' O' _ G' H' hd' hI (S'.set (rd.mono S'.fr))
theorem q_forT {ds : List Dat} {tl : TE} {j : Nat} {tb : TS} (h : EvX W K tl Γ (.tup ds)) (S : S4 W K G1 G0 H0 Γ O σ G H) (I : Nat → List (Option Dat) → List (Addr × List Dat) → Prop) (h0 : I 0 Γ O)
    (hs : ∀ G1 (i : Nat) d Γ' O' σ' G' H', ds[i]? = some d → I i Γ' O' → S4 W K G1 G0 H0 (Γ'.set j (some d)) O' σ' G' H' → tb { D with nx := Word W K G1 G0 H0 (I (i + 1)), ct := Word W K G1 G0 H0 (I (i + 1)), bk := tz D } σ' H')
    (hd : ∀ Γ' O' σ' G' H', I ds.length Γ' O' → S4 W K G1 G0 H0 Γ' O' σ' G' H' → tz D σ' H') : tSeq (tFor (iTup K tl) (gName j) tb) tz D σ H :=
  g_forT (D := { D with nx := tz D }) h S I h0 hs hd
/-- a while whose test is known in each turn -/
theorem g_whilex (m0 : Nat) (I : Nat → List (Option Dat) → List (Addr × List Dat) → Prop) (S : S4 W K G1 G0 H0 Γ O σ G H) (h0 : I m0 Γ O)
    (hs : ∀ m Γ' O', I m Γ' O' → ∃ b, EvBX W K tt Γ' b ∧ (b = true → ∀ σ' G' H', S4 W K G1 G0 H0 Γ' O' σ' G' H' → ts { D with nx := fun σ2 H2 => ∃ m', m' < m ∧ Word W K G1 G0 H0 (I m') σ2 H2, ct := fun σ2 H2 => ∃ m', m' < m ∧ Word W K G1 G0 H0 (I m') σ2 H2, bk := D.nx } σ' H') ∧
      (b = false → ∀ σ' G' H', S4 W K G1 G0 H0 Γ' O' σ' G' H' → D.nx σ' H')) : tWhile tt ts D σ H :=
  ⟨fun m σ H => Word W K G1 G0 H0 (I m) σ H, ⟨m0, Γ, O, G, h0, S⟩, fun m σ' H' ⟨Γ', O', G', hI, S'⟩ => by
    obtain ⟨b, hb, h1, h2⟩ := hs m Γ' O' hI
    refine hb σ' G' H' S'.env S'.ok _ fun c G2 H2 s e => ?_
    subst e
    cases c with
    | true => exact ⟨_, fun _ _ z => z, h1 rfl σ' G2 H2 (S'.step s)⟩
    | false => exact h2 rfl σ' G2 H2 (S'.step s)⟩
theorem q_whilex (m0 : Nat) (I : Nat → List (Option Dat) → List (Addr × List Dat) → Prop) (S : S4 W K G1 G0 H0 Γ O σ G H) (h0 : I m0 Γ O)
    (hs : ∀ m Γ' O', I m Γ' O' → ∃ b, EvBX W K tt Γ' b ∧ (b = true → ∀ σ' G' H', S4 W K G1 G0 H0 Γ' O' σ' G' H' → ts { D with nx := fun σ2 H2 => ∃ m', m' < m ∧ Word W K G1 G0 H0 (I m') σ2 H2, ct := fun σ2 H2 => ∃ m', m' < m ∧ Word W K G1 G0 H0 (I m') σ2 H2, bk := tz D } σ' H') ∧
      (b = false → ∀ σ' G' H', S4 W K G1 G0 H0 Γ' O' σ' G' H' → tz D σ' H')) : tSeq (tWhile tt ts) tz D σ H := g_whilex (D := { D with nx := tz D }) m0 I S h0 hs
end
end Ly

set_option maxHeartbeats 2000000
namespace Ly
open PySem L2
section
variable {W : Wd} {K : PySem.W.Frag} {Γ : List (Option Dat)} {ta tb tc te tl : TE} {tt tu : TT} {tA : TA} {P R S : Dat → Prop} {a b d e : Dat} {G H G2 H2 G1 G0 H0 : Hp} {O : List (Addr × List Dat)} {σ : L2.St} {D : Ends} {tz ts t1 t2 : TS}

/-! ## list comprehensions -/
/-- behind i turns: the new list at D -/
def Cm (W : Wd) (K : PySem.W.Frag) (G H : Hp) (D : Addr) (Acc : List Dat → Prop) (H' : Hp) : Prop := ∃ G' xs ds, Stp W G H G' H' ∧ H D = none ∧ G' D = none ∧ H' D = some (.lst xs) ∧ Reps K G' xs ds ∧ Acc ds
/-- one turn -/
abbrev Tn (W : Wd) (K : PySem.W.Frag) (tt : TT) (te : TE) (Γ : List (Option Dat)) (A B : List Dat → Prop) : Prop := ∀ ds, A ds → ds.length < 100000 ∧ ∃ T : Bool → Prop, EvB W K tt Γ T ∧ (T true → Ev W K te Γ fun d => B (ds ++ [d])) ∧ (T false → B ds)
theorem cm_start {Dl : Addr} (k : Ok W G H) (hD : H Dl = none) {A : List Dat → Prop} (h : A []) : Cm W K G H Dl A (upd H Dl (.lst [])) := by
  have gd : G Dl = none := by
    cases e : G Dl with
    | none => rfl
    | some u =>
      rw [k.ex Dl u e] at hD
      cases hD
  exact ⟨G, [], [], Stp.grow k (Ex.new hD), hD, gd, upd_same, .nil, h⟩
theorem cm_turn {Dl : Addr} {A B : List Dat → Prop} {H' : Hp} {σ2 : L2.St} (k : Ok W G H) (hm : ∀ G', Ex G G' → Env K G' σ2 Γ) (p : Cm W K G H Dl A H') (t : Tn W K tt te Γ A B) :
    tt σ2 H' fun b H3 => if b = true then te σ2 H3 fun y H4 => ∃ acc, H4 Dl = some (.lst acc) ∧ acc.length < sizeLine ∧ Cm W K G H Dl B (upd H4 Dl (.lst (acc ++ [y]))) else Cm W K G H Dl B H3 := by
  obtain ⟨G', xs, ds, s, hD, gD, h1, r, ha⟩ := p
  obtain ⟨hl, T, ht, hy, hn⟩ := t ds ha
  have nm : ¬ W.m Dl := fun z => by
    obtain ⟨o, ho⟩ := W.tr k.inv z
    rw [ho] at hD
    cases hD
  have k' := s.ok k
  have keepG : ∀ {G3 H3 : Hp}, Stp W G' H' G3 H3 → G3 Dl = none := fun {G3 H3} s3 => by
    cases e : G3 Dl with
    | none => rfl
    | some u =>
      rcases s3.nw Dl u e with q | q
      · rw [gD] at q
        cases q
      · rw [h1] at q
        cases q
  refine ht σ2 G' H' (hm G' s.gg) k' _ fun b G3 H3 s3 p3 => ?_
  cases b with
  | false =>
    show Cm W K G H Dl B H3
    exact ⟨G3, xs, ds, s.trans s3, hD, keepG s3, s3.hh Dl _ nm h1, r.mono s3.gg, hn p3⟩
  | true =>
    show te σ2 H3 fun y H4 => ∃ acc, H4 Dl = some (.lst acc) ∧ acc.length < sizeLine ∧ Cm W K G H Dl B (upd H4 Dl (.lst (acc ++ [y])))
    refine hy p3 σ2 G3 H3 (hm G3 (s.gg.trans s3.gg)) (s3.ok k') _ fun y d G4 H4 s4 p4 r4 => ?_
    have s34 := s3.trans s4
    have g4 := keepG s34
    have h4 := s34.hh Dl _ nm h1
    refine ⟨xs, h4, by rw [r.length]; exact sz_lt hl, ?_⟩
    have s04 := s.trans s34
    have eg : Ex G4 (upd H4 Dl (.lst (xs ++ [y]))) := fun a u e => by
      rw [upd_ne (ne_of_none e g4)]
      exact s04.gh a u e
    refine ⟨G4, xs ++ [y], ds ++ [d], ⟨s04.gg, eg, fun a u hm e => ?_, s04.nw, W.loc s04.inv fun a ha => upd_ne fun e => nm (e ▸ ha)⟩, hD, g4, upd_same, (r.mono s34.gg).append (.cons r4 .nil), p4⟩
    rw [upd_ne (ne_of_none e hD)]
    exact s04.hh a u hm e
theorem cm_end {Dl : Addr} {A : List Dat → Prop} {H' : Hp} {Q : VK} (p : Cm W K G H Dl A H') (q : ∀ p xs ds G2 H2, Stp W G H G2 H2 → H p = none → G2 p = none → H2 p = some (.lst xs) → Reps K G2 xs ds → A ds → Q (.ref p) H2) : Q (.ref Dl) H' := by
  obtain ⟨G', xs, ds, s, hD, gD, h1, r, ha⟩ := p
  exact q Dl xs ds G' H' s hD gD h1 r ha
theorem wipe1 {σ : L2.St} {j : Nat} {x : Option V} : L2.wipe ((L2.wipe σ [j]).set j x) [j] = L2.wipe σ [j] := by
  show ((σ.set j none).set j x).set j none = σ.set j none
  rw [List.set_set, List.set_set]
theorem env_turn {j : Nat} {v : V} {d : Dat} (h : Env K G σ Γ) (r : Rep K G v d) : Env K G ((L2.wipe σ [j]).set j (some v)) ((wipeG Γ [j]).set j (some d)) := (h.wipe [j]).set r
/-- over range(n) -/
theorem n_lcR {j : Nat} {R : List Dat → Prop} (A : Int → Nat → List Dat → Prop) (h : EvA W K tA Γ fun ds => ∃ n, ds = [.int n] ∧ (-100000 ≤ n ∧ n ≤ 100000) ∧ A n 0 [] ∧ (∀ i : Nat, (i : Int) < n → Tn W K tt te ((wipeG Γ [j]).set j (some (.int (i : Int)))) (A n i) (A n (i + 1))) ∧ ∀ ds, A n n.toNat ds → R ds) :
    EvN W K (tLc (iRng1 tA) (gName j) tt te [j]) Γ R := fun σ G H n k Q q =>
  h σ G H n k _ fun vs ds G2 H2 s ⟨m, e, hm, h0, ht, hR⟩ r => by
    subst e
    cases r with
    | cons r r0 =>
      cases r0
      cases r
      have k2 := s.ok k
      refine ⟨m, rfl, by omega, by omega, fun Dl hD => lc_range (lo := 0) (n := m.toNat) (fun i H' => Cm W K G2 H2 Dl (A m i) H') (cm_start k2 hD h0) (fun i H' hi p => ?_) (fun H' p => ?_)⟩
      · refine ⟨wipe1, ?_⟩
        rw [Int.zero_add]
        exact cm_turn k2 (fun G' e => env_turn (n.mono (s.gg.trans e)) (.int _)) p (ht i (by omega))
      · exact cm_end p fun p xs ds G3 H3 s3 h0 g3 h3 r a => q p xs ds G3 H3 (s.trans s3) (back s h0).1 g3 h3 r (hR ds a)
/-- over a list that is known -/
theorem n_lcL {j : Nat} {R : List Dat → Prop} {us : List Dat} (A : Nat → List Dat → Prop) (h : EvX W K tl Γ (.lst us)) (h0 : A 0 []) (ht : ∀ i d, us[i]? = some d → Tn W K tt te ((wipeG Γ [j]).set j (some d)) (A i) (A (i + 1))) (hR : ∀ ds, A us.length ds → R ds) :
    EvN W K (tLc (iList K tl) (gName j) tt te [j]) Γ R := fun σ G H n k Q q =>
  h σ G H n k _ fun v d G2 H2 s e r => by
    subst e
    obtain ⟨a, xs, rfl, hx, r⟩ := r.lst_inv
    have k2 := s.ok k
    refine ⟨a, rfl, ⟨xs, ex_l k2.ex hx⟩, fun Dl hD => lc_list (xs := xs) (fun i H' => Cm W K G2 H2 Dl (A i) H') (cm_start k2 hD h0) (fun i H' _ p => ?_) (fun i x H' hi p => ?_) (fun H' p => ?_)⟩
    · obtain ⟨G', _, _, s', _⟩ := p
      exact ex_l (s'.gg.trans s'.gh) hx
    · obtain ⟨d, hd, rd⟩ := r.getV hi
      exact ⟨wipe1, cm_turn k2 (fun G' e => env_turn (n.mono (s.gg.trans e)) (rd.mono e)) p (ht i d hd)⟩
    · rw [r.length] at p
      exact cm_end p fun p xs ds G3 H3 s3 h0 g3 h3 r a => q p xs ds G3 H3 (s.trans s3) (back s h0).1 g3 h3 r (hR ds a)
theorem n_lcT {j : Nat} {R : List Dat → Prop} {us : List Dat} (A : Nat → List Dat → Prop) (h : EvX W K tl Γ (.tup us)) (h0 : A 0 []) (ht : ∀ i d, us[i]? = some d → Tn W K tt te ((wipeG Γ [j]).set j (some d)) (A i) (A (i + 1))) (hR : ∀ ds, A us.length ds → R ds) :
    EvN W K (tLc (iTup K tl) (gName j) tt te [j]) Γ R := fun σ G H n k Q q =>
  h σ G H n k _ fun v d G2 H2 s e r => by
    subst e
    obtain ⟨a, xs, rfl, hx, r⟩ := r.tup_inv
    have k2 := s.ok k
    refine ⟨a, rfl, ⟨xs, ex_t k2.ex hx⟩, fun Dl hD => lc_tup (xs := xs) (fun i H' => Cm W K G2 H2 Dl (A i) H') (cm_start k2 hD h0) (fun i H' _ p => ?_) (fun i x H' hi p => ?_) (fun H' p => ?_)⟩
    · obtain ⟨G', _, _, s', _⟩ := p
      exact ex_t (s'.gg.trans s'.gh) hx
    · obtain ⟨d, hd, rd⟩ := r.getV hi
      exact ⟨wipe1, cm_turn k2 (fun G' e => env_turn (n.mono (s.gg.trans e)) (rd.mono e)) p (ht i d hd)⟩
    · rw [r.length] at p
      exact cm_end p fun p xs ds G3 H3 s3 h0 g3 h3 r a => q p xs ds G3 H3 (s.trans s3) (back s h0).1 g3 h3 r (hR ds a)
theorem b_yes : EvB W K tYes Γ (· = true) := fun σ G H n k Q q => q true G H (Stp.refl k) rfl
/-- a turn without a test -/
theorem tn_each {A B : List Dat → Prop} {Γ : List (Option Dat)} (hl : ∀ ds, A ds → ds.length < 100000) (h : ∀ ds, A ds → Ev W K te Γ fun d => B (ds ++ [d])) : Tn W K tYes te Γ A B := fun ds a => ⟨hl ds a, _, b_yes, fun _ => h ds a, fun e => nomatch e⟩
/-- what n turns give, each a P -/
def Each (P : Nat → Dat → Prop) (n : Nat) (ds : List Dat) : Prop := ds.length = n ∧ ∀ i d, ds[i]? = some d → P i d
theorem Each.nil {P : Nat → Dat → Prop} : Each P 0 [] := ⟨rfl, fun _ _ h => by simp at h⟩
theorem Each.add {P : Nat → Dat → Prop} {n : Nat} {ds : List Dat} {d : Dat} (h : Each P n ds) (p : P n d) : Each P (n + 1) (ds ++ [d]) := by
  refine ⟨by rw [List.length_append, h.1]; rfl, fun i u hi => ?_⟩
  by_cases hl : i < ds.length
  · rw [List.getElem?_append_left hl] at hi
    exact h.2 i u hi
  · rw [List.getElem?_append_right (by omega)] at hi
    have hz : i - ds.length = 0 := by
      rcases Nat.eq_zero_or_pos (i - ds.length) with z | z
      · exact z
      · rw [List.getElem?_eq_none (by simp; omega)] at hi
        cases hi
    rw [hz] at hi
    have e : d = u := Option.some.inj hi
    have e2 : i = n := by have := h.1; omega
    rw [← e, e2]
    exact p
theorem tn_P {P : Nat → Dat → Prop} {i : Nat} {Γ : List (Option Dat)} (hi : i < 100000) (h : Ev W K te Γ (P i)) : Tn W K tYes te Γ (Each P i) (Each P (i + 1)) := tn_each (fun ds a => by rw [a.1]; exact hi) fun ds a => h.imp fun d p => a.add p
end
end Ly

set_option maxHeartbeats 2000000
namespace Ly
open PySem L2 PySem.Spec PyProof.Rows HT
/-! ## t[::-1] of a tuple -/
section
variable {prog : Program} {w : World} {A : Around} {E : Value → Shared → Prop} {s : Shared}
theorem adjust_rev (n : Nat) : Builtin.Slice.sliceAdjust none none (-1) (n : Int) = ((n : Int) - 1, -1) := by
  unfold Builtin.Slice.sliceAdjust
  simp
theorem places_rev (n : Nat) : Builtin.Slice.slicePlaces ((n : Int) - 1) (-1) (-1) = n := by
  unfold Builtin.Slice.slicePlaces
  have h1 : ¬ ((-1 : Int) > 0) := by decide
  rw [if_neg h1]
  split
  · have e : ((n : Int) - 1 - -1 - 1) / (- -1) = (n : Int) - 1 := by
      rw [show (- -1 : Int) = 1 by decide, Int.ediv_one]
      omega
    rw [e]
    omega
  · omega
theorem sliceApplied_rev {sl : Addr} {vl vu vs : Value} {n : Nat} {Q : Int × Int × Nat → Shared → Prop} (hs : s.heap.IsSliceOf sl vl vu vs) (pl : IsPart vl none) (pu : IsPart vu none) (ps : IsPart vs (some (-1)))
    (h : Q ((n : Int) - 1, -1, n) s) : wpAny (model prog w) A (Builtin.Slice.sliceApplied (.ref sl) (pure (n : Int))) Q E s := by
  obtain ⟨os, hos, hcs, hds⟩ := id hs
  unfold Builtin.Slice.sliceApplied Builtin.Slice.sliceFields
  refine wpAny_bind (wpAny_bind (wpAny_field hos hds (x := vl) rfl (wpAny_bind (wpAny_field hos hds (x := vu) rfl (wpAny_bind (wpAny_field hos hds (x := vs) rfl (wpAny_pure ?_)))))))
  refine wpAny_bind (slicePart_ ps ?_)
  show wpAny _ _ (if ((-1 : Int) == 0) = true then _ else _) _ _ s
  rw [if_neg (by decide)]
  refine wpAny_bind (slicePart_ pl (wpAny_bind (slicePart_ pu (wpAny_bind (wpAny_pure ?_)))))
  show wpAny _ _ (match Builtin.Slice.sliceAdjust none none (-1) (n : Int) with | (lo, hi) => pure (lo, (-1 : Int), Builtin.Slice.slicePlaces lo hi (-1))) _ _ s
  rw [adjust_rev n]
  show wpAny _ _ (pure ((n : Int) - 1, (-1 : Int), Builtin.Slice.slicePlaces ((n : Int) - 1) (-1) (-1))) _ _ s
  rw [places_rev]
  exact wpAny_pure h
theorem fm_rev (xs : Array Value) : ((List.range xs.size).filterMap fun (m : Nat) => xs[(((xs.size : Nat) : Int) - 1 + (m : Int) * (-1)).toNat]?) = xs.toList.reverse := by
  have e : (fun (m : Nat) => xs[(((xs.size : Nat) : Int) - 1 + (m : Int) * (-1)).toNat]?) = ((fun x => xs[x]?) ∘ fun m => xs.size - 1 - m) := by
    funext m
    have q : (((xs.size : Nat) : Int) - 1 + (m : Int) * (-1)).toNat = xs.size - 1 - m := by omega
    rw [q]
    rfl
  rw [e, ← List.filterMap_map, PySem.W.krv_range, List.filterMap_reverse, PySem.W.krv_all]
theorem getItem_tuple_rev {t sl : Addr} {items : Array Value} {vl vu vs : Value} {Q : Value → Shared → Prop} (ht : IsTup s.heap t items) (hs : s.heap.IsSliceOf sl vl vu vs) (pl : IsPart vl none) (pu : IsPart vu none) (ps : IsPart vs (some (-1)))
    (h : Q (.ref s.heap.objs.size) { s with heap := s.heap.push { cls := .type "tuple", data := .seq items.toList.reverse.toArray } }) (hsz : items.size ≤ sizeLine) : wpAny (model prog w) A (getItem (.ref t) (.ref sl)) Q E s := by
  have htake : sizeOk (.seq items.toList.reverse.toArray) := by
    show items.toList.reverse.toArray.size ≤ sizeLine
    rw [List.size_toArray, List.length_reverse, Array.length_toList]
    exact hsz
  obtain ⟨os, hos, hcs, hds⟩ := id hs
  have hTs : s.TypeIs (.ref sl) "slice" := ⟨os, hos, hcs⟩
  unfold getItem
  try with_reducible refine wpAny_holding ?_
  first | refine wpAny_bind (wpAny_pure ?_) | skip
  refine wpAny_bind (wpAny_sequenceKey ht.typeIs (by decide) ?_)
  refine wpAny_bind (wpAny_callSpecial?_slot (name := Str.ofString "__getitem__") ht.typeIs PyProof.Rows.slot_tuple_getitem
    (wpAny_call_entry PyProof.Rows.slot_tuple_getitem ht.typeIs entry_tuple_getitem ?_ (args_tuple_getitem _ _)))
  show wpAny _ _ (Builtin.Tuple.tupleItemsOf (.ref t) >>= _) _ _ s
  refine wpAny_bind (tupleItemsOf_ ht ?_)
  refine wpAny_bind (wpAny_typeOf hTs ?_)
  rw [if_pos (by decide)]
  refine wpAny_bind (sliceApplied_rev hs pl pu ps ?_)
  have hno : ¬ ((((items.size : Nat) : Int) - 1 == 0 && (-1 : Int) == 1 && items.size == items.size) = true) := by
    intro q
    rw [Bool.and_eq_true, Bool.and_eq_true] at q
    exact absurd q.1.2 (by decide)
  show wpAny _ _ (if (((items.size : Nat) : Int) - 1 == 0 && (-1 : Int) == 1 && items.size == items.size) = true then _ else _) _ _ s
  rw [if_neg hno, fm_rev]
  first
    | exact wpAny_bind (m := Builtin.Tuple.tupleExact _) (wpAny_newObj_type (wpAny_pure ⟨_, rfl, wpAny_pure h⟩) htake)
    | exact wpAny_bind (m := Builtin.Tuple.tupleExact _) (wpAny_newObj_type (wpAny_bind (wpAny_pure (wpAny_pure ⟨_, rfl, wpAny_pure h⟩))) htake)
    | exact wpAny_bind (wpAny_bind (m := Builtin.Tuple.tupleExact _) (wpAny_newObj_type (wpAny_pure (wpAny_pure ⟨_, rfl, wpAny_pure h⟩)) htake))
    | exact wpAny_bind (wpAny_bind (m := Builtin.Tuple.tupleExact _) (wpAny_newObj_type (wpAny_pure ⟨_, rfl, wpAny_pure h⟩) htake))
end
section
variable {X : Cx}
def tRevT (K : PySem.W.Frag) (te : TE) : TE := fun σ H Q => te σ H fun x H1 => ∃ a xs, x = .ref a ∧ SqT K H1 a xs ∧ ∀ p, H1 p = none → Q (.ref p) (upd H1 p (.tup xs.reverse))
theorem pe_revT {e : Expr} {te : TE} {k : Nat} {p1 p2 p3 pos : Pos} (he : PE X e te) : PE X (.Subscript e (.Slice none none (some (.UnaryOp .USub (.Constant (.int 1) k p1) p2)) p3) pos) (tRevT X.K te) := by
  refine ⟨fun pins s σ H Q I h => ?_⟩
  refine Subscript_ (thn (he.run pins s σ H _ I h) fun v s1 ⟨x, H1, I1, r1, q1⟩ => ?_)
  obtain ⟨a, xs, ex, hx, q⟩ := q1
  subst ex
  cases r1
  have hst : PO X (some (.UnaryOp .USub (.Constant (.int 1) k p1) p2)) (tPart (tUn (rU fun i => .int (-i)) (tC (.int 1)))) := po_some (pe_un un_neg pe_int)
  refine wpAny_Slice (thn (po_none.run pins s1 σ H1 (fun o H2 => o = none ∧ H2 = H1) I1 ⟨rfl, rfl⟩) fun vl s2 ⟨l, H2, I2, pl, el, e2⟩ => ?_)
  subst el e2
  refine thn (po_none.run pins s2 σ H2 (fun o H3 => o = none ∧ H3 = H2) I2 ⟨rfl, rfl⟩) fun vu s3 ⟨u, H3, I3, pu, eu, e3⟩ => ?_
  subst eu e3
  refine thn (hst.run pins s3 σ H3 (fun o H4 => o = some (-1) ∧ H4 = H3) I3 ⟨1, rfl, -1, rfl, rfl, rfl⟩) fun vs s4 ⟨o, H4, I4, ps, eo, e4⟩ => ?_
  subst eo e4
  have I5 : Inv X pins σ H4 { s4 with heap := s4.heap.push { cls := .type "slice", data := .fields #[vl, vu, vs] } } := I4.kept (t' := s4.toks) fun b ob q => Heap.get?_push_of_some _ q
  obtain ⟨its, r, ht, hz⟩ := I5.tuple hx
  have hlen := r.length
  show wpAny (model X.prog X.w) X.A (subscriptTail e (.Slice none none (some (.UnaryOp .USub (.Constant (.int 1) k p1) p2)) p3) (.ref a) (.ref s4.heap.objs.size)) (EP X pins σ Q) X.xe { s4 with heap := s4.heap.push { cls := .type "slice", data := .fields #[vl, vu, vs] } }
  refine tail_any (ops := [.ref a, .ref s4.heap.objs.size]) ht.typeIs PyProof.Rows.slot_tuple_getitem.lookup ?_ (by with_unfolding_all rfl)
  refine getItem_tuple_rev ht (Heap.IsSliceOf.new _ vl vu vs) pl pu ps ?_ (by rw [List.size_toArray]; omega)
  refine ⟨.ref _, _, I5.laid (t' := s4.toks) (o := .tup xs.reverse) (fun b ob q => Heap.get?_push_of_some _ q) (Nat.le_refl _) ?_, rfl, q _ (I5.hok.fresh (Nat.le_refl _))⟩
  exact ⟨by rw [List.length_reverse]; exact hz, _, r.reverse, IsTup.new _ _⟩
end
section
variable {W : Wd} {K : PySem.W.Frag} {Γ : List (Option Dat)} {ta tb tc te tl : TE} {tt tu : TT} {tA : TA} {P R S : Dat → Prop} {a b d e : Dat} {G H G2 H2 G1 G0 H0 : Hp} {O : List (Addr × List Dat)} {σ : L2.St} {D : Ends} {tz ts t1 t2 : TS}
theorem v_revT {ds : List Dat} (h : EvX W K te Γ (.tup ds)) : EvX W K (tRevT K te) Γ (.tup ds.reverse) := fun σ G H n k Q q =>
  h σ G H n k _ fun v d G2 H2 s e r => by
    subst e
    obtain ⟨a, xs, rfl, hx, r⟩ := r.tup_inv
    have k2 := s.ok k
    exact ⟨a, xs, rfl, ex_t k2.ex hx, fun p hp => (q.step s) _ _ _ _ (Stp.new k2 hp) rfl (.tup (t_of upd_same) (r.reverse.mono (Stp.new k2 hp (W := W)).gg))⟩
theorem n_revL {ds : List Dat} (h : EvX W K te Γ (.lst ds)) : EvN W K (tRevL K te) Γ (· = ds.reverse) := fun σ G H n k Q q =>
  h σ G H n k _ fun v d G2 H2 s e r => by
    subst e
    obtain ⟨a, xs, rfl, hx, r⟩ := r.lst_inv
    have k2 := s.ok k
    exact ⟨a, xs, rfl, ex_l k2.ex hx, fun l hl => q l xs.reverse _ G2 _ (s.trans (Stp.grow k2 (Ex.new hl))) (back s hl).1 (back s hl).2 upd_same r.reverse rfl⟩
/-- for x in reversed(a tuple) -/
theorem g_forRT {ds : List Dat} {j : Nat} {tb : TS} (h : EvX W K tl Γ (.tup ds)) (S : S4 W K G1 G0 H0 Γ O σ G H) (I : Nat → List (Option Dat) → List (Addr × List Dat) → Prop) (h0 : I 0 Γ O)
    (hs : ∀ G1 (i : Nat) d Γ' O' σ' G' H', i < ds.length → ds[ds.length - 1 - i]? = some d → I i Γ' O' → S4 W K G1 G0 H0 (Γ'.set j (some d)) O' σ' G' H' → tb { D with nx := Word W K G1 G0 H0 (I (i + 1)), ct := Word W K G1 G0 H0 (I (i + 1)), bk := D.nx } σ' H')
    (hd : ∀ Γ' O' σ' G' H', I ds.length Γ' O' → S4 W K G1 G0 H0 Γ' O' σ' G' H' → D.nx σ' H') : tFor (RT.iRevA K tl) (gName j) tb D σ H :=
  h σ G H S.env S.ok _ fun v d G2 H2 s e r => by
    subst e
    obtain ⟨a, xs, rfl, hx, r⟩ := r.tup_inv
    have S2 := S.step s
    have hl := r.length
    refine ⟨a, xs, rfl, .inr ⟨ex_t S2.ok.ex hx, RT.for_ItvT (fun i σ' H' => Word W K G2 G0 H0 (I i) σ' H') ⟨Γ, O, G2, h0, S2.here⟩ (fun i σ' H' ⟨Γ', O', G', _, S'⟩ => ex_t (S'.fr.trans S'.ok.ex) hx) (fun i x σ' H' hi hxi ⟨Γ', O', G', hI, S'⟩ => ?_) (fun σ' H' ⟨Γ', O', G', hI, S'⟩ => hd Γ' O' σ' G' H' (by rw [← hl]; exact hI) (S'.base S2.fr))⟩⟩
    obtain ⟨d, hd', rd⟩ := r.getV hxi
    rw [hl] at hd' hi
    exact hs G2 i d Γ' O' _ G' H' hi hd' hI (S'.set (rd.mono S'.fr))
theorem q_forRT {ds : List Dat} {j : Nat} {tb : TS} (h : EvX W K tl Γ (.tup ds)) (S : S4 W K G1 G0 H0 Γ O σ G H) (I : Nat → List (Option Dat) → List (Addr × List Dat) → Prop) (h0 : I 0 Γ O)
    (hs : ∀ G1 (i : Nat) d Γ' O' σ' G' H', i < ds.length → ds[ds.length - 1 - i]? = some d → I i Γ' O' → S4 W K G1 G0 H0 (Γ'.set j (some d)) O' σ' G' H' → tb { D with nx := Word W K G1 G0 H0 (I (i + 1)), ct := Word W K G1 G0 H0 (I (i + 1)), bk := tz D } σ' H')
    (hd : ∀ Γ' O' σ' G' H', I ds.length Γ' O' → S4 W K G1 G0 H0 Γ' O' σ' G' H' → tz D σ' H') : tSeq (tFor (RT.iRevA K tl) (gName j) tb) tz D σ H := g_forRT (D := { D with nx := tz D }) h S I h0 hs hd
end
/-! ## == of data -/
mutual
def toPy : Dat → PyData
  | .non => .none | .bl b => .bool b | .int i => .int i | .str x => .str x | .tup ds => .tuple (toPys ds) | .lst ds => .list (toPys ds) | .adr _ => .none | .obj _ _ => .none | .dct _ => .none
def toPys : List Dat → List PyData
  | [] => []
  | d :: ds => toPy d :: toPys ds
end
mutual
/-- data of scalars, tuples, lists, nested at most n deep -/
def Pl : Nat → Dat → Prop
  | _, .non => True
  | _, .bl _ => True
  | _, .int _ => True
  | _, .str x => PyData.strOk x = true
  | _, .adr _ => False
  | _, .obj _ _ => False
  | _, .dct _ => False
  | 0, .tup _ => False
  | 0, .lst _ => False
  | n + 1, .tup ds => ds.length ≤ 40000 ∧ Pls n ds
  | n + 1, .lst ds => ds.length ≤ 40000 ∧ Pls n ds
def Pls : Nat → List Dat → Prop
  | _, [] => True
  | n, d :: ds => Pl n d ∧ Pls n ds
end
theorem Pls.get {n : Nat} : ∀ {ds : List Dat} {i : Nat} {d : Dat}, Pls n ds → ds[i]? = some d → Pl n d
  | [], _, _, _, h => by simp at h
  | _ :: _, 0, _, p, h => by
    have e := Option.some.inj h
    subst e
    unfold Pls at p
    exact p.1
  | _ :: ds, i + 1, d, p, h => by
    rw [List.getElem?_cons_succ] at h
    unfold Pls at p
    exact Pls.get p.2 h
theorem Pls.ints {n : Nat} : ∀ (ns : List Int), Pls n (ns.map Dat.int)
  | [] => by simp [Pls]
  | x :: ns => by
    rw [List.map_cons, Pls]
    exact ⟨by simp [Pl], Pls.ints ns⟩
theorem Pl.ints {n : Nat} {ns : List Int} (h : ns.length ≤ 40000) : Pl (n + 1) (.tup (ns.map Dat.int)) := by
  rw [Pl]
  exact ⟨by rw [List.length_map]; exact h, Pls.ints ns⟩
mutual
theorem Pl.lay : ∀ (n : Nat) (d : Dat), Pl n d → (toPy d).canLay0 = true
  | _, .non, _ => by simp [toPy, PyData.canLay0]
  | _, .bl _, _ => by simp [toPy, PyData.canLay0]
  | _, .int _, _ => by simp [toPy, PyData.canLay0]
  | n, .str x, h => by
    have h : PyData.strOk x = true := by cases n <;> simpa [Pl] using h
    simp [toPy, PyData.canLay0, h]
  | n, .adr _, h => by cases n <;> simp [Pl] at h
  | n, .obj _ _, h => by cases n <;> simp [Pl] at h
  | n, .dct _, h => by cases n <;> simp [Pl] at h
  | 0, .tup _, h => by simp [Pl] at h
  | 0, .lst _, h => by simp [Pl] at h
  | n + 1, .tup ds, h => by
    rw [Pl] at h
    simp only [toPy, PyData.canLay0]
    exact Pls.lay n ds h.2
  | n + 1, .lst ds, h => by
    rw [Pl] at h
    simp only [toPy, PyData.canLay0]
    exact Pls.lay n ds h.2
theorem Pls.lay : ∀ (n : Nat) (d : List Dat), Pls n d → PyData.canLayAll0 (toPys d) = true
  | _, [], _ => by simp [toPys, PyData.canLayAll0]
  | n, d :: ds, h => by
    rw [Pls] at h
    simp only [toPys, PyData.canLayAll0, Pl.lay n d h.1, Pls.lay n ds h.2, Bool.and_self]
end
mutual
theorem Pl.depth : ∀ (n : Nat) (d : Dat), Pl n d → (toPy d).depth ≤ n
  | _, .non, _ => by simp [toPy, PyData.depth]
  | _, .bl _, _ => by simp [toPy, PyData.depth]
  | _, .int _, _ => by simp [toPy, PyData.depth]
  | _, .str x, h => by simp [toPy, PyData.depth]
  | n, .adr _, h => by cases n <;> simp [Pl] at h
  | n, .obj _ _, h => by cases n <;> simp [Pl] at h
  | n, .dct _, h => by cases n <;> simp [Pl] at h
  | 0, .tup _, h => by simp [Pl] at h
  | 0, .lst _, h => by simp [Pl] at h
  | n + 1, .tup ds, h => by
    rw [Pl] at h
    simp only [toPy, PyData.depth]
    have := Pls.depth n ds h.2
    omega
  | n + 1, .lst ds, h => by
    rw [Pl] at h
    simp only [toPy, PyData.depth]
    have := Pls.depth n ds h.2
    omega
theorem Pls.depth : ∀ (n : Nat) (d : List Dat), Pls n d → PyData.depthAll (toPys d) ≤ n
  | _, [], _ => by simp [toPys, PyData.depthAll]
  | n, d :: ds, h => by
    rw [Pls] at h
    simp only [toPys, PyData.depthAll]
    have h1 := Pl.depth n d h.1
    have h2 := Pls.depth n ds h.2
    omega
end
theorem Pl.shaped {n : Nat} {d : Dat} (h : Pl n d) (hn : n ≤ 64) : SeqAt.shaped (toPy d) = true := by
  unfold SeqAt.shaped
  rw [h.lay, decide_eq_true (Nat.le_trans h.depth hn)]
  rfl
section
variable {K : PySem.W.Frag} {G H : Hp}
mutual
theorem Rep.dp (e : Ex G H) : ∀ {v : V} {d : Dat} (n : Nat), Pl n d → Rep K G v d → Dp K H v (toPy d)
  | _, _, _, _, .non => .non
  | _, _, _, _, .bl b => .bl b
  | _, _, _, _, .int i => .int i
  | _, _, _, _, .str x => .str x
  | _, _, n, h, .adr _ => by cases n <;> simp [Pl] at h
  | _, _, n, h, .obj _ _ => by cases n <;> simp [Pl] at h
  | _, _, n, h, .dct _ _ => by cases n <;> simp [Pl] at h
  | _, _, 0, h, .tup _ _ => by simp [Pl] at h
  | _, _, 0, h, .lst _ _ => by simp [Pl] at h
  | _, _, n + 1, h, .tup s r => by
    rw [Pl] at h
    simp only [toPy]
    exact .tup (ex_t e s) (Reps.dp e n h.2 r)
  | _, _, n + 1, h, .lst s r => by
    rw [Pl] at h
    simp only [toPy]
    exact .lst (ex_l e s) (Reps.dp e n h.2 r)
theorem Reps.dp (e : Ex G H) : ∀ {v : List V} {d : List Dat} (n : Nat), Pls n d → Reps K G v d → DpAll K H v (toPys d)
  | _, _, _, _, .nil => .nil
  | _, _, n, h, .cons r rs => by
    rw [Pls] at h
    simp only [toPys]
    exact .cons (Rep.dp e n h.1 r) (Reps.dp e n h.2 rs)
end
end
section
variable {W : Wd} {K : PySem.W.Frag} {Γ : List (Option Dat)} {ta tb : TE} {a b : Dat} {n : Nat}
theorem v_eqD (ha : EvX W K ta Γ a) (hb : EvX W K tb Γ b) (pa : Pl n a) (pb : Pl n b) (hn : n ≤ 64) : EvX W K (tOp (rEqD K) ta tb) Γ (.bl (PyData.eqv (toPy a) (toPy b))) := v_opx ha hb fun G H x y k rx ry Q q =>
  ⟨_, _, Rep.dp k.ex n pa rx, Rep.dp k.ex n pb ry, pa.shaped hn, pb.shaped hn, q.here k (.bl _) rfl⟩
theorem v_neD (ha : EvX W K ta Γ a) (hb : EvX W K tb Γ b) (pa : Pl n a) (pb : Pl n b) (hn : n ≤ 64) : EvX W K (tOp (rNeD K) ta tb) Γ (.bl (!PyData.eqv (toPy a) (toPy b))) := v_opx ha hb fun G H x y k rx ry Q q =>
  ⟨_, _, Rep.dp k.ex n pa rx, Rep.dp k.ex n pb ry, pa.shaped hn, pb.shaped hn, q.here k (.bl _) rfl⟩
theorem eqv_same {d : Dat} (h : Pl n d) : PyData.eqv (toPy d) (toPy d) = true := SeqAt.eqv_refl _ h.lay
theorem eqvs_ints : ∀ (ns ms : List Int), PyData.eqvAll (toPys (ns.map Dat.int)) (toPys (ms.map Dat.int)) = decide (ns = ms)
  | [], [] => by simp [toPys, PyData.eqvAll]
  | [], m :: ms => by simp [toPys, PyData.eqvAll]
  | n :: ns, [] => by simp [toPys, PyData.eqvAll]
  | n :: ns, m :: ms => by
    simp only [List.map_cons, toPys, toPy, PyData.eqvAll, PyData.eqv, eqvs_ints ns ms]
    by_cases h : n = m
    · subst h
      simp
    · have : (n == m) = false := by simpa using h
      rw [this]
      simp [h]
theorem eqv_ints (ns ms : List Int) : PyData.eqv (toPy (.tup (ns.map Dat.int))) (toPy (.tup (ms.map Dat.int))) = decide (ns = ms) := by
  simp only [toPy, PyData.eqv]
  exact eqvs_ints ns ms
/-- a tuple's, a list's truth -/
abbrev tTruth (K : PySem.W.Frag) (ta : TE) : TT := fun σ H Q => ta σ H fun x H' => ∃ k, TruV K x H' k ∧ Q k H'
theorem b_truT {ds : List Dat} (h : EvX W K ta Γ (.tup ds)) : EvBX W K (tTruth K ta) Γ (!ds.isEmpty) := fun σ G H n k Q q => h σ G H n k _ fun v d G2 H2 s e r => by
  subst e
  obtain ⟨a, xs, rfl, hx, r⟩ := r.tup_inv
  refine ⟨!xs.isEmpty, .inr (.inl ⟨xs, ex_t (s.ok k).ex hx, rfl⟩), q _ G2 H2 s ?_⟩
  cases r <;> rfl
theorem b_truL {ds : List Dat} (h : EvX W K ta Γ (.lst ds)) : EvBX W K (tTruth K ta) Γ (!ds.isEmpty) := fun σ G H n k Q q => h σ G H n k _ fun v d G2 H2 s e r => by
  subst e
  obtain ⟨a, xs, rfl, hx, r⟩ := r.lst_inv
  refine ⟨!xs.isEmpty, .inl ⟨xs, ex_l (s.ok k).ex hx, rfl⟩, q _ G2 H2 s ?_⟩
  cases r <;> rfl
end
/-! ## the pool of draws -/
/-- the pool at p, its script at c; what stands in it -/
def WQ (p c : Addr) (ns : List Int) (i z k s : Int) : Wd where
  m := fun a => a = p ∨ a = c
  I := fun H => p ≠ c ∧ H c = some (.lst (ns.map V.int)) ∧ H p = some (.lst [.ref c, .int i, .int z, .int k, .int s])
  loc := fun h e => ⟨h.1, by rw [e _ (.inr rfl)]; exact h.2.1, by rw [e _ (.inl rfl)]; exact h.2.2⟩
  tr := fun h hm => by
    rcases hm with rfl | rfl
    · exact ⟨_, h.2.2⟩
    · exact ⟨_, h.2.1⟩
def WP (p c : Addr) (ns : List Int) : Wd where
  m := fun a => a = p ∨ a = c
  I := fun H => p ≠ c ∧ H c = some (.lst (ns.map V.int)) ∧ ∃ i z k s : Int, 0 ≤ i ∧ H p = some (.lst [.ref c, .int i, .int z, .int k, .int s])
  loc := fun h e => ⟨h.1, by rw [e _ (.inr rfl)]; exact h.2.1, by
    obtain ⟨i, z, k, s, h0, h1⟩ := h.2.2
    exact ⟨i, z, k, s, h0, by rw [e _ (.inl rfl)]; exact h1⟩⟩
  tr := fun h hm => by
    rcases hm with rfl | rfl
    · obtain ⟨i, z, k, s, h0, h1⟩ := h.2.2
      exact ⟨_, h1⟩
    · exact ⟨_, h.2.1⟩
section
variable {p c : Addr} {ns : List Int} {i z k s : Int} {K : PySem.W.Frag} {Γ : List (Option Dat)} {ta tb te : TE} {a b d : Dat} {G H G2 H2 G1 G0 H0 : Hp} {O : List (Addr × List Dat)} {σ : L2.St} {D : Ends} {tz : TS} {P : Dat → Prop}
/-- the pool's cells -/
def cellQ (c : Addr) (i z k s : Int) : List Dat := [.adr c, .int i, .int z, .int k, .int s]
def cellV (c : Addr) (i z k s : Int) : List V := [.ref c, .int i, .int z, .int k, .int s]
theorem v_pool {j : Nat} (ha : EvX (WQ p c ns i z k s) K ta Γ (.adr p)) (h : (cellQ c i z k s)[j]? = some d) : EvX (WQ p c ns i z k s) K (tOp (rIxL K) ta (tC (.int (j : Int)))) Γ d :=
  v_opx ha v_int fun G H x y kk rx ry Q q => by
    cases rx
    cases ry
    have hp := kk.inv.2.2
    have r : Reps K G (cellV c i z k s) (cellQ c i z k s) := .cons (.adr c) (.cons (.int i) (.cons (.int z) (.cons (.int k) (.cons (.int s) .nil))))
    obtain ⟨v, h1, h2⟩ := r.get h
    exact ⟨p, cellV c i z k s, (j : Int), v, rfl, rfl, l_of hp, atI_nat h1, q.here kk h2 rfl⟩
theorem v_poolLen (ha : EvX (WQ p c ns i z k s) K ta Γ (.adr c)) : EvX (WQ p c ns i z k s) K (tCB (rLen K) (tCons ta tNil)) Γ (.int (ns.length : Int)) := v_cbx (a_consx ha a_nil) fun G H xs kk r Q q => by
  cases r with
  | cons r r0 =>
    cases r0
    cases r
    exact ⟨c, _, rfl, .inl (l_of kk.inv.2.1), by rw [List.length_map]; exact q.here kk (.int _) rfl⟩
theorem v_poolAt {x : Int} (ha : EvX (WQ p c ns i z k s) K ta Γ (.adr c)) (hb : EvX (WQ p c ns i z k s) K tb Γ (.int i)) (h0 : 0 ≤ i) (h : ns[i.toNat]? = some x) : EvX (WQ p c ns i z k s) K (tOp (rIxL K) ta tb) Γ (.int x) :=
  v_opx ha hb fun G H v w kk rx ry Q q => by
    cases rx
    cases ry
    have e : i = ((i.toNat : Nat) : Int) := by omega
    refine ⟨c, ns.map V.int, i, .int x, rfl, rfl, l_of kk.inv.2.1, ?_, q.here kk (.int _) rfl⟩
    rw [e]
    exact atI_nat (by rw [List.getElem?_map, h]; rfl)
/-- pool[j] = e -/
theorem g_pool {j : Nat} {i' z' k' s' : Int} {x : Int} (h : EvX (WQ p c ns i z k s) K te Γ (.int x)) (ha : EvX (WQ p c ns i z k s) K ta Γ (.adr p)) (S : S4 (WQ p c ns i z k s) K G1 G0 H0 Γ [] σ G H) (hj : j < 5) (he : (cellV c i z k s).set j (.int x) = cellV c i' z' k' s')
    (kk : ∀ G2 H2, S4 (WQ p c ns i' z' k' s') K G1 G0 H0 Γ [] σ G2 H2 → D.nx σ H2) : tAsg te (gSub ta (tC (.int (j : Int))) rSetL) D σ H :=
  h σ G H S.env S.ok _ fun v d G2 H2 st e r => by
    subst e
    cases r
    have S2 := S.step st
    refine ha σ G2 H2 S2.env S2.ok _ fun v d G3 H3 st3 e r => ?_
    subst e
    cases r
    have S3 := S2.step st3
    obtain ⟨n1, n2, n3⟩ := S3.ok.inv
    refine ⟨p, cellV c i z k s, (j : Int), j, rfl, rfl, n3, Evl.ixN_nat hj, ?_⟩
    rw [he]
    have gp : G3 p = none := S3.ok.off p (.inl rfl)
    have eg : Ex G3 (upd H3 p (.lst (cellV c i' z' k' s'))) := fun a u e => by
      rw [upd_ne (ne_of_none e gp)]
      exact S3.ok.ex a u e
    have inv : (WQ p c ns i' z' k' s').I (upd H3 p (.lst (cellV c i' z' k' s'))) := ⟨n1, by rw [upd_ne (Ne.symm n1)]; exact n2, upd_same⟩
    refine kk G3 _ ⟨S3.env, ⟨eg, inv, S3.ok.off⟩, ⟨S3.stp.gg, eg, fun a u hm e => ?_, S3.stp.nw, inv⟩, (fun l ds hm => nomatch hm), List.nodup_nil, S3.fr⟩
    rw [upd_ne (fun q => hm (.inl q))]
    exact S3.stp.hh a u hm e
theorem q_pool {j : Nat} {i' z' k' s' : Int} {x : Int} (h : EvX (WQ p c ns i z k s) K te Γ (.int x)) (ha : EvX (WQ p c ns i z k s) K ta Γ (.adr p)) (S : S4 (WQ p c ns i z k s) K G1 G0 H0 Γ [] σ G H) (hj : j < 5) (he : (cellV c i z k s).set j (.int x) = cellV c i' z' k' s')
    (kk : ∀ G2 H2, S4 (WQ p c ns i' z' k' s') K G1 G0 H0 Γ [] σ G2 H2 → tz D σ H2) : tSeq (tAsg te (gSub ta (tC (.int (j : Int))) rSetL)) tz D σ H := g_pool (D := { D with nx := tz D }) h ha S hj he kk
/-- the same, the value told by what it is -/
theorem g_poolP {j : Nat} (h : Ev (WQ p c ns i z k s) K te Γ fun d => ∃ v, d = .int v) (ha : EvX (WQ p c ns i z k s) K ta Γ (.adr p)) (S : S4 (WQ p c ns i z k s) K G1 G0 H0 Γ [] σ G H) (hj : j = 2)
    (kk : ∀ x G2 H2, S4 (WQ p c ns i x k s) K G1 G0 H0 Γ [] σ G2 H2 → D.nx σ H2) : tAsg te (gSub ta (tC (.int (j : Int))) rSetL) D σ H :=
  h σ G H S.env S.ok _ fun v d G2 H2 st e r => by
    obtain ⟨x, rfl⟩ := e
    cases r
    subst hj
    have S2 := S.step st
    refine g_pool (te := tC (.int x)) (j := 2) v_int ha S2 (by omega) rfl (kk x)
theorem q_of_p (S : S4 (WP p c ns) K G1 G0 H0 Γ [] σ G H) : ∃ i z k s, 0 ≤ i ∧ S4 (WQ p c ns i z k s) K G1 G H Γ [] σ G H := by
  obtain ⟨n1, n2, i, z, k, s, h0, n3⟩ := S.ok.inv
  have k2 : Ok (WQ p c ns i z k s) G H := ⟨S.ok.ex, ⟨n1, n2, n3⟩, S.ok.off⟩
  exact ⟨i, z, k, s, h0, S.env, k2, Stp.refl k2, (fun l ds hm => nomatch hm), List.nodup_nil, S.fr⟩
theorem p_of_q (h0 : 0 ≤ i) (h : Stp (WQ p c ns i z k s) G H G2 H2) : Stp (WP p c ns) G H G2 H2 := ⟨h.gg, h.gh, h.hh, h.nw, ⟨h.inv.1, h.inv.2.1, i, z, k, s, h0, h.inv.2.2⟩⟩
end
end Ly

set_option maxHeartbeats 2000000
namespace Ly
open PySem L2 PySem.Spec PyProof.Rows
/-! ## the defs of the text -/
def Df (K : PySem.W.Frag) (mg : Str → Option Value) (x : Str) (st : Stmt) : Prop := ∃ f fd, Fun K x x st f fd ∧ mg x = some (.ref f)
section
variable {P : Program} {w : World} {K : PySem.W.Frag} {mg : Str → Option Value} {base : Heap}
theorem cal_of {x : Str} {st : Stmt} {N ps : List Str} {k : Nat} {sp : Sp} (D : Df K mg x st)
    (hb : ∀ (kV doc pm : Value) (an : Option Addr) (cdv ct : Value) (us : List Value), us.length = ps.length → bindArgs (PySem.W.fnOf x x (defArgs st) (defBody st) (defScope st) .none kV doc pm an cdv ct) ⟨us, []⟩ = pure (ps.zip us))
    (S : FnScope N ps (defScope st)) (len : ∀ vs H Q E, sp vs H Q E → vs.length = ps.length)
    (hbody : ∀ (f : Addr) (cdv : Value) (A : Around) (outer : List PySem.Env) (s : Shared) (H : Hp) (vs : List V) (Q : VK) (E : XK), Room k (A.deeper (envOfC x (defScope st) s.heap.objs.size f cdv)) → sp vs H Q E →
      ∃ t, PSs (cxOf CX0 P w K mg base N x (defScope st) f cdv A outer s H E).nox (defBody st) t ∧ t { nx := fun _ H' => Q .non H', rt := Q } (L2.start N vs) H) : C8.Cal P w K mg base (k + 1) x sp [] := by
  obtain ⟨f, fd, F, hm⟩ := D
  exact ⟨⟨f, fd, ps, [], F.ok S len (hbody f), hm, F.kp, F.binds hb, .nil⟩⟩
theorem cal_imp {x : Str} {k : Nat} {sp sp' : Sp} (c : C8.Cal P w K mg base k x sp []) (h : ∀ vs H Q E, sp' vs H Q E → sp vs H Q E) : C8.Cal P w K mg base k x sp' [] := by
  obtain ⟨f, fd, ps, ds, F, hm, kp, b, d⟩ := c.ex
  exact ⟨⟨f, fd, ps, ds, F.imp h, hm, kp, b, d⟩⟩
end
section
variable {W : Wd} {K : PySem.W.Frag} {Γ : List (Option Dat)} {ta tb tc te tl : TE} {tt tu : TT} {tA : TA} {d : Dat}
theorem v_cn {v : V} {d : Dat} (h : ∀ G, Rep K G v d) : EvX W K (tC v) Γ d := fun σ G H n k Q q => q.here k (h G) rfl
theorem v_ix0 {ds : List Dat} (ha : EvX W K ta Γ (.tup ds)) (h : ds[0]? = some d) : EvX W K (tOp (rIxT K) ta (tC (.int 0))) Γ d := v_ixT (j := 0) ha v_int rfl h
variable {G1 G0 H0 G H : Hp} {O : List (Addr × List Dat)} {σ : L2.St} {D : Ends} {tz : TS}
theorem g_aug {i : Nat} {f : Int → Int → Int} {a b : Int} (hx : Γ[i]? = some (some (.int a))) (h : EvX W K te Γ (.int b)) (S : S4 W K G1 G0 H0 Γ O σ G H) (k : ∀ σ2 G2 H2, S4 W K G1 G0 H0 (Γ.set i (some (.int (f a b)))) O σ2 G2 H2 → D.nx σ2 H2) : tAug i te (ipI f) D σ H := by
  obtain ⟨v, h1, h2⟩ := S.env.at' i _ hx
  cases h2
  refine ⟨.int a, h1, h σ G H S.env S.ok _ fun y d G2 H2 s e r => ?_⟩
  subst e
  cases r
  exact ⟨a, b, rfl, rfl, k _ G2 H2 ((S.step s).set (.int _))⟩
theorem q_aug {i : Nat} {f : Int → Int → Int} {a b : Int} (hx : Γ[i]? = some (some (.int a))) (h : EvX W K te Γ (.int b)) (S : S4 W K G1 G0 H0 Γ O σ G H) (k : ∀ σ2 G2 H2, S4 W K G1 G0 H0 (Γ.set i (some (.int (f a b)))) O σ2 G2 H2 → tz D σ2 H2) : tSeq (tAug i te (ipI f)) tz D σ H := g_aug (D := { D with nx := tz D }) hx h S k
/-! ## subscripts of lists and tuples alike -/
theorem v_ixDT {ds : List Dat} {i : Int} {j : Nat} (ha : EvX W K ta Γ (.tup ds)) (hb : EvX W K tb Γ (.int i)) (e : i = (j : Int)) (h : ds[j]? = some d) : EvX W K (tOp (rIx K) ta tb) Γ d := v_opx ha (e ▸ hb) fun G H x y k rx ry Q q => .inr (.inl (rv_ixT h G H x y k rx ry Q q))
theorem v_ixDL {ds : List Dat} {i : Int} {j : Nat} (ha : EvX W K ta Γ (.lst ds)) (hb : EvX W K tb Γ (.int i)) (e : i = (j : Int)) (h : ds[j]? = some d) : EvX W K (tOp (rIx K) ta tb) Γ d := v_opx ha (e ▸ hb) fun G H x y k rx ry Q q => .inl (rv_ixL h G H x y k rx ry Q q)
/-- isinstance(x, T) by the data -/
theorem v_is {i : Nat} {T : String} {c : Bool} (h : Γ[i]? = some (some d)) (ht : typed d = true) (hk : kitB (tyN d) T = some c) : EvX W K (tCB (rIsi K) (tCons (tVar i) (tCons (tC (.ty T)) tNil))) Γ (.bl c) := v_isi (v_var h) ht (kit_ty hk)
abbrev rDivmod : List V → Hp → VK → Prop := fun xs H Q => ∃ i j, xs = [.int i, .int j] ∧ CDivP i j ∧ ∀ p, H p = none → Q (.ref p) (upd H p (.tup [.int (i / j), .int (i % j)]))
theorem v_divmod {i j : Int} (ha : EvX W K ta Γ (.int i)) (hb : EvX W K tb Γ (.int j)) (hc : CDivP i j) : EvX W K (tCB rDivmod (tCons ta (tCons tb tNil))) Γ (.tup [.int (i / j), .int (i % j)]) := v_cbx (a_consx ha (a_consx hb a_nil)) fun G H xs k r Q q => by
  cases r with
  | cons r1 r =>
    cases r with
    | cons r2 r =>
      cases r
      cases r1
      cases r2
      exact ⟨i, j, rfl, hc, fun p hp => q _ _ _ _ (Stp.new k hp) rfl (.tup (t_of upd_same) (.cons (.int _) (.cons (.int _) .nil)))⟩
/-! ## the pool of draws: its defs' promises -/
abbrev dI (ns : List Int) : List Dat := ns.map Dat.int
def spPool (K : PySem.W.Frag) : Sp := fun vs H Q _ => ∃ G ns, Ok Wd0 G H ∧ Reps K G vs [.lst (dI ns)] ∧ ns.length ≤ 63 ∧ ∀ p c H2, Ex H H2 → H p = none → H c = none → (WP p c ns).I H2 → Q (.ref p) H2
/-- of a draw: from 0 to many - 1 -/
def Drawn (m : Int) : Dat → Prop := fun d => ∃ v, d = .int v ∧ 0 ≤ v ∧ v < m
def A_draw (p : Addr) : Sig := fun ds P => ∃ m : Int, 0 < m ∧ m < 1000000000 ∧ ds = [.adr p, .int m] ∧ P = Drawn m
def spDraw (K : PySem.W.Frag) : Sp := fun vs H Q E => ∃ p c ns, spOf (WP p c ns) K (A_draw p) vs H Q E
variable {p c : Addr} {ns : List Int} {E : XK}
theorem v_draw {m : Int} (ha : EvX (WP p c ns) K ta Γ (.adr p)) (hb : EvX (WP p c ns) K tb Γ (.int m)) (h0 : 0 < m) (h1 : m < 1000000000) : Ev (WP p c ns) K (tCall (spDraw K) [] E (tCons ta (tCons tb tNil))) Γ (Drawn m) := fun σ G H n k Q q =>
  a_consx ha (a_consx hb a_nil) σ G H n k _ fun vs ds G2 H2 s e r => by
    subst e
    rw [List.append_nil]
    exact ⟨p, c, ns, G2, _, _, s.ok k, r, ⟨m, h0, h1, rfl, rfl⟩, q.step s⟩
theorem g_newpool {i : Nat} (h : EvX Wd0 K ta Γ (.lst (dI ns))) (hl : ns.length ≤ 63) (S : S4 Wd0 K G1 G0 H0 Γ [] σ G H) (k : ∀ p c σ2 G2 H2, S4 (WP p c ns) K G2 G2 H2 (Γ.set i (some (.adr p))) [] σ2 G2 H2 → D.nx σ2 H2) : tAsg (tCall (spPool K) [] E (tCons ta tNil)) (gName i) D σ H := by
  refine a_consx h a_nil σ G H S.env S.ok (fun vs H1 => spPool K (vs ++ []) H1 (fun x H2 => D.nx (σ.set i (some x)) H2) E) fun vs ds G2 H2 s e r => ?_
  · subst e
    rw [List.append_nil]
    have S2 := S.step s
    refine ⟨G2, ns, S2.ok, r, hl, fun p c H3 e hp hc hI => ?_⟩
    have none_of : ∀ {a : Addr}, H2 a = none → G2 a = none := fun {a} ha => by
      cases q : G2 a with
      | none => rfl
      | some u =>
        rw [S2.ok.ex a u q] at ha
        cases ha
    have k2 : Ok (WP p c ns) G2 H3 := ⟨S2.ok.ex.trans e, hI, fun a ha => by
      rcases ha with rfl | rfl
      · exact none_of hp
      · exact none_of hc⟩
    exact k p c _ G2 H3 ⟨S2.env.set (.adr p), k2, Stp.refl k2, (fun _ _ h => nomatch h), List.nodup_nil, Ex.refl _⟩
theorem q_newpool {i : Nat} (h : EvX Wd0 K ta Γ (.lst (dI ns))) (hl : ns.length ≤ 63) (S : S4 Wd0 K G1 G0 H0 Γ [] σ G H) (k : ∀ p c σ2 G2 H2, S4 (WP p c ns) K G2 G2 H2 (Γ.set i (some (.adr p))) [] σ2 G2 H2 → tz D σ2 H2) : tSeq (tAsg (tCall (spPool K) [] E (tCons ta tNil)) (gName i)) tz D σ H := g_newpool (D := { D with nx := tz D }) h hl S k
/-- the promise of the comparing def, for data nested at most n deep -/
def A_like (n : Nat) : Sig := fun ds P => ∃ d, Pl n d ∧ ds = [d, d] ∧ P = (· = .bl true)
def A_spread : Sig := fun ds P => ∃ x : Int, ds = [.int x] ∧ P = fun d => ∃ v, d = .int v
theorem EvN.evx {R : List Dat → Prop} {es : List Dat} (h : EvN W K te Γ R) (i : ∀ ds, R ds → ds = es) : EvX W K te Γ (.lst es) := EvN.ev h fun ds r => by rw [i ds r]
end
theorem kb_bool_bool : kitB "bool" "bool" = some true := by decide +kernel
theorem kb_bool_int : kitB "bool" "int" = some true := by decide +kernel
theorem kb_bool_str : kitB "bool" "str" = some false := by decide +kernel
theorem kb_bool_tuple : kitB "bool" "tuple" = some false := by decide +kernel
theorem kb_bool_list : kitB "bool" "list" = some false := by decide +kernel
theorem kb_int_bool : kitB "int" "bool" = some false := by decide +kernel
theorem kb_int_int : kitB "int" "int" = some true := by decide +kernel
theorem kb_int_str : kitB "int" "str" = some false := by decide +kernel
theorem kb_int_tuple : kitB "int" "tuple" = some false := by decide +kernel
theorem kb_int_list : kitB "int" "list" = some false := by decide +kernel
theorem kb_str_bool : kitB "str" "bool" = some false := by decide +kernel
theorem kb_str_int : kitB "str" "int" = some false := by decide +kernel
theorem kb_str_str : kitB "str" "str" = some true := by decide +kernel
theorem kb_str_tuple : kitB "str" "tuple" = some false := by decide +kernel
theorem kb_str_list : kitB "str" "list" = some false := by decide +kernel
theorem kb_tuple_bool : kitB "tuple" "bool" = some false := by decide +kernel
theorem kb_tuple_int : kitB "tuple" "int" = some false := by decide +kernel
theorem kb_tuple_str : kitB "tuple" "str" = some false := by decide +kernel
theorem kb_tuple_tuple : kitB "tuple" "tuple" = some true := by decide +kernel
theorem kb_tuple_list : kitB "tuple" "list" = some false := by decide +kernel
theorem kb_list_bool : kitB "list" "bool" = some false := by decide +kernel
theorem kb_list_int : kitB "list" "int" = some false := by decide +kernel
theorem kb_list_str : kitB "list" "str" = some false := by decide +kernel
theorem kb_list_tuple : kitB "list" "tuple" = some false := by decide +kernel
theorem kb_list_list : kitB "list" "list" = some true := by decide +kernel
end Ly

set_option maxHeartbeats 2000000
namespace Ly
open PySem L2 PySem.Spec PyProof.Rows
section
variable {W : Wd} {K : PySem.W.Frag} {Γ : List (Option Dat)} {ta tb tc te tl tn : TE} {tt tu : TT} {tA : TA} {P R : Dat → Prop} {d a b : Dat} {G1 G0 H0 G H : Hp} {O : List (Addr × List Dat)} {σ : L2.St} {D : Ends} {tz ts tw : TS}
/-- a call whose value is told by what the promise says of the arguments -/
theorem v_callI {A : Sig} {E : XK} {R : List Dat → Prop} (h : EvA W K tA Γ R) (hs : ∀ ds, R ds → ∃ P', A ds P' ∧ ∀ d, P' d → P d) : Ev W K (tCall (spOf Wd0 K A) [] E tA) Γ P := fun σ G H n k Q q =>
  h σ G H n k _ fun vs ds G2 H2 s p r => by
    rw [List.append_nil]
    obtain ⟨P', h1, h2⟩ := hs ds p
    exact ⟨G2, ds, P', (s.ok k).pure, r, h1, fun v d G3 H3 t pd rd => q v d G3 H3 (s.trans (Stp.of0 (s.ok k) t)) (h2 d pd) rd⟩
/-- an item of a written list at a drawn place -/
theorem v_pick {ds : List Dat} {m : Int} (ha : EvX W K ta Γ (.lst ds)) (hb : Ev W K tb Γ (Drawn m)) (hl : (ds.length : Int) = m) : Ev W K (tOp (rIxL K) ta tb) Γ (fun d => d ∈ ds) := v_op ha hb fun x y ex ⟨v, ey, h0, h1⟩ => by
  subst ex ey
  have hlt : v.toNat < ds.length := by omega
  have hx : ds[v.toNat]? = some ds[v.toNat] := List.getElem?_eq_getElem hlt
  have e : v = ((v.toNat : Nat) : Int) := by omega
  rw [e]
  intro G H x y k rx ry Q q
  exact rv_ixL hx G H x y k rx ry Q fun v d G2 H2 s p r => q v d G2 H2 s (by rw [p]; exact List.getElem_mem hlt) r
theorem v_pickT {ds : List Dat} {m : Int} (ha : EvX W K ta Γ (.tup ds)) (hb : Ev W K tb Γ (Drawn m)) (hl : (ds.length : Int) = m) : Ev W K (tOp (rIxT K) ta tb) Γ (fun d => d ∈ ds) := v_op ha hb fun x y ex ⟨v, ey, h0, h1⟩ => by
  subst ex ey
  have hlt : v.toNat < ds.length := by omega
  have hx : ds[v.toNat]? = some ds[v.toNat] := List.getElem?_eq_getElem hlt
  have e : v = ((v.toNat : Nat) : Int) := by omega
  rw [e]
  intro G H x y k rx ry Q q
  exact rv_ixT hx G H x y k rx ry Q fun v d G2 H2 s p r => q v d G2 H2 s (by rw [p]; exact List.getElem_mem hlt) r
/-- a test upon a drawn number -/
theorem b_drawn {r : R2} {m : Int} {y : Dat} (h : Ev W K ta Γ (Drawn m)) (hb : EvX W K tb Γ y) (hr : ∀ v, 0 ≤ v → v < m → ∃ c, RV W K r (.int v) y (· = .bl c)) : EvB W K (tTest (tOp r ta tb)) Γ fun _ => True :=
  b_test (v_op h hb fun x z ⟨v, e, h0, h1⟩ ez => by
    subst e ez
    obtain ⟨c, hc⟩ := hr v h0 h1
    intro G H x y k rx ry Q q
    exact hc G H x y k rx ry Q fun v d G2 H2 s p r => q v d G2 H2 s ⟨c, p, trivial⟩ r)
theorem b_drawnEq {m j : Int} (h : Ev W K ta Γ (Drawn m)) (hb : EvX W K tb Γ (.int j)) : EvB W K (tTest (tOp rEq ta tb)) Γ fun _ => True := b_drawn h hb fun v _ _ => ⟨_, rv_eq rfl rfl rfl⟩
theorem b_drawnNe {m j : Int} (h : Ev W K ta Γ (Drawn m)) (hb : EvX W K tb Γ (.int j)) : EvB W K (tTest (tOp rNe ta tb)) Γ fun _ => True := b_drawn h hb fun v _ _ => ⟨_, rv_ne rfl rfl rfl⟩
theorem b_drawnGt {m j : Int} (h : Ev W K ta Γ (Drawn m)) (hb : EvX W K tb Γ (.int j)) : EvB W K (tTest (tOp (rI0 fun i j => .bl (decide (j < i))) ta tb)) Γ fun _ => True := b_drawn h hb fun v _ _ => ⟨_, rv_I0 (g := fun i j => .bl (decide (j < i))) fun _ => .bl _⟩
theorem b_drawnLt {m j : Int} (h : Ev W K ta Γ (Drawn m)) (hb : EvX W K tb Γ (.int j)) : EvB W K (tTest (tOp (rI0 fun i j => .bl (decide (i < j))) ta tb)) Γ fun _ => True := b_drawn h hb fun v _ _ => ⟨_, rv_I0 (g := fun i j => .bl (decide (i < j))) fun _ => .bl _⟩
/-- lists of drawn numbers -/
def InB (b : Int) (ns : List Int) : Prop := ∀ x ∈ ns, 0 ≤ x ∧ x < b
theorem each_drawn {b : Int} : ∀ {ds : List Dat} {n : Nat}, Each (fun _ => Drawn b) n ds → ∃ ns, ds = dI ns ∧ ns.length = n ∧ InB b ns := fun {ds n} h => by
  have hh : ∀ d ∈ ds, Drawn b d := fun d hd => by
    obtain ⟨i, hi, e⟩ := List.getElem_of_mem hd
    exact h.2 i d (by rw [List.getElem?_eq_getElem hi, e])
  have hl := h.1
  clear h
  induction ds generalizing n with
  | nil => exact ⟨[], rfl, hl, fun x hx => by cases hx⟩
  | cons d ds ih =>
    obtain ⟨v, rfl, h0, h1⟩ := hh d List.mem_cons_self
    obtain ⟨ns, e, e2, e3⟩ := ih (n := ds.length) (fun d hd => hh d (List.mem_cons_of_mem _ hd)) rfl
    refine ⟨v :: ns, by rw [e]; rfl, by rw [List.length_cons, e2, ← hl, List.length_cons], fun x hx => ?_⟩
    rcases List.mem_cons.mp hx with rfl | hx
    · exact ⟨h0, h1⟩
    · exact e3 x hx
theorem n_lcD {j : Nat} {b m : Int} (hn : Ev W K tn Γ (Drawn m)) (hm : m ≤ 10000) (he : ∀ i : Nat, Ev W K te ((wipeG Γ [j]).set j (some (.int (i : Int)))) (Drawn b)) :
    EvN W K (tLc (iRng1 (tCons tn tNil)) (gName j) tYes te [j]) Γ fun ds => ∃ ns, ds = dI ns ∧ (ns.length : Int) < m ∧ InB b ns :=
  n_lcR (fun _ i ds => Each (fun _ => Drawn b) i ds) (EvA.imp (a_cons hn a_nil) fun ds ⟨d, r, e, ⟨v, ed, h0, h1⟩, er⟩ => ⟨v, by rw [e, ed, er], ⟨by omega, by omega⟩, Each.nil, fun i hi => tn_P (by omega) (he i), fun ds h => by
    obtain ⟨ns, h2, h3, h4⟩ := each_drawn h
    exact ⟨ns, h2, by omega, h4⟩⟩)
/-- many draws -/
theorem n_lcE {j : Nat} {b m : Int} (hn : EvX W K tn Γ (.int m)) (h0 : 0 ≤ m) (hm : m ≤ 10000) (he : ∀ i : Nat, Ev W K te ((wipeG Γ [j]).set j (some (.int (i : Int)))) (Drawn b)) :
    EvN W K (tLc (iRng1 (tCons tn tNil)) (gName j) tYes te [j]) Γ fun ds => ∃ ns, ds = dI ns ∧ (ns.length : Int) = m ∧ InB b ns :=
  n_lcR (fun _ i ds => Each (fun _ => Drawn b) i ds) (EvA.imp (a_cons hn a_nil) fun ds ⟨d, r, e, ed, er⟩ => ⟨m, by rw [e, ed, er], ⟨by omega, by omega⟩, Each.nil, fun i hi => tn_P (by omega) (he i), fun ds h => by
    obtain ⟨ns, h2, h3, h4⟩ := each_drawn h
    exact ⟨ns, h2, by omega, h4⟩⟩)
/-- range(n), n told by what it is -/
theorem g_for1P {R : Int → Prop} {j : Nat} {tb : TS} (h : EvA W K tA Γ fun ds => ∃ n, ds = [.int n] ∧ R n) (hn : ∀ n, R n → -100000 ≤ n ∧ n ≤ 100000) (S : S4 W K G1 G0 H0 Γ O σ G H) (I : Nat → List (Option Dat) → List (Addr × List Dat) → Prop) (h0 : I 0 Γ O)
    (hs : ∀ n (i : Nat) Γ' O' σ' G' H', R n → (i : Int) < n → I i Γ' O' → S4 W K G1 G0 H0 (Γ'.set j (some (.int (i : Int)))) O' σ' G' H' → tb { D with nx := Word W K G1 G0 H0 (I (i + 1)), ct := Word W K G1 G0 H0 (I (i + 1)), bk := D.nx } σ' H')
    (hd : ∀ n Γ' O' σ' G' H', R n → I n.toNat Γ' O' → S4 W K G1 G0 H0 Γ' O' σ' G' H' → D.nx σ' H') : tFor (iRng1 tA) (gName j) tb D σ H :=
  h σ G H S.env S.ok _ fun vs ds G2 H2 s ⟨n, e, hR⟩ r => by
    subst e
    have hb := hn n hR
    cases r with
    | cons r r0 =>
      cases r0
      cases r
      refine ⟨n, rfl, by omega, by omega, g_forR (lo := 0) I h0 (S.step s) (fun i Γ' O' σ' G' H' hi hI S' => ?_) (fun Γ' O' σ' G' H' hI S' => hd n Γ' O' σ' G' H' hR hI S')⟩
      rw [Int.zero_add] at S'
      exact hs n i Γ' O' σ' G' H' hR (by omega) hI S'
theorem q_for1P {R : Int → Prop} {j : Nat} {tb : TS} (h : EvA W K tA Γ fun ds => ∃ n, ds = [.int n] ∧ R n) (hn : ∀ n, R n → -100000 ≤ n ∧ n ≤ 100000) (S : S4 W K G1 G0 H0 Γ O σ G H) (I : Nat → List (Option Dat) → List (Addr × List Dat) → Prop) (h0 : I 0 Γ O)
    (hs : ∀ n (i : Nat) Γ' O' σ' G' H', R n → (i : Int) < n → I i Γ' O' → S4 W K G1 G0 H0 (Γ'.set j (some (.int (i : Int)))) O' σ' G' H' → tb { D with nx := Word W K G1 G0 H0 (I (i + 1)), ct := Word W K G1 G0 H0 (I (i + 1)), bk := tz D } σ' H')
    (hd : ∀ n Γ' O' σ' G' H', R n → I n.toNat Γ' O' → S4 W K G1 G0 H0 Γ' O' σ' G' H' → tz D σ' H') : tSeq (tFor (iRng1 tA) (gName j) tb) tz D σ H := g_for1P (D := { D with nx := tz D }) h hn S I h0 hs hd
mutual
theorem Pl.up : ∀ {n : Nat} {d : Dat}, Pl n d → Pl (n + 1) d
  | n, .non, _ => by simp [Pl]
  | n, .bl _, _ => by simp [Pl]
  | n, .int _, _ => by simp [Pl]
  | n, .str x, h => by
    have h : PyData.strOk x = true := by cases n <;> simpa [Pl] using h
    simpa [Pl] using h
  | n, .adr _, h => by cases n <;> simp [Pl] at h
  | n, .obj _ _, h => by cases n <;> simp [Pl] at h
  | n, .dct _, h => by cases n <;> simp [Pl] at h
  | 0, .tup _, h => by simp [Pl] at h
  | 0, .lst _, h => by simp [Pl] at h
  | n + 1, .tup ds, h => by
    rw [Pl] at h ⊢
    exact ⟨h.1, Pls.up h.2⟩
  | n + 1, .lst ds, h => by
    rw [Pl] at h ⊢
    exact ⟨h.1, Pls.up h.2⟩
theorem Pls.up : ∀ {n : Nat} {d : List Dat}, Pls n d → Pls (n + 1) d
  | _, [], _ => by simp [Pls]
  | n, d :: ds, h => by
    rw [Pls] at h ⊢
    exact ⟨Pl.up h.1, Pls.up h.2⟩
end
/-! ## the law's own promise -/
def spLaw (K : PySem.W.Frag) : Sp := fun vs H Q _ => ∃ (a : Addr) (ns : List Int), vs = [.ref a] ∧ SqL K H a (ns.map V.int) ∧ ns.length ≤ 63 ∧ ∀ H', Q (.bl true) H'
theorem law_start {vs : List V} {a : Addr} {ns : List Int} {N : List Str} (e : vs = [.ref a]) (h : SqL K H a (ns.map V.int)) : S4 Wd0 K H H H ([.lst (dI ns)].map some ++ List.replicate (N.length - [Dat.lst (dI ns)].length) Option.none) [] (L2.start N vs) H H := by
  subst e
  exact S4.start ⟨Ex.refl H, trivial, fun _ h => h.elim⟩ (.cons (.lst h (Reps.of_ints ns)) .nil)
theorem go_true {Q : VK} (h : ∀ H', Q (.bl true) H') : Go W K G H (· = .bl true) Q := fun v d G2 H2 s e r => by
  subst e
  cases r
  exact h H2
end
end Ly

set_option maxHeartbeats 4000000
namespace K04
open PySem L2 Ly
def topS (i : Nat) : Stmt := PySem.Challenge.pw_translatory_k04_tapes_and_their_numbers.main.body.getD i (.Pass ⟨0, 0, 0, 0⟩)
abbrev s_without_end_blanks : Stmt := topS 6
abbrev N_without_end_blanks : List Str := ["symbols", "end"]
theorem sc_without_end_blanks : FnScope N_without_end_blanks ["symbols"] (defScope s_without_end_blanks) := ⟨rfl, rfl, rfl, by decide +kernel, rfl, by decide +kernel, by decide +kernel⟩
abbrev s_start : Stmt := topS 2
abbrev N_start : List Str := ["word", "symbols"]
theorem sc_start : FnScope N_start ["word"] (defScope s_start) := ⟨rfl, rfl, rfl, by decide +kernel, rfl, by decide +kernel, by decide +kernel⟩
abbrev s_content : Stmt := topS 3
abbrev N_content : List Str := ["configuration", "_", "left", "here", "right", "from_right"]
theorem sc_content : FnScope N_content ["configuration"] (defScope s_content) := ⟨rfl, rfl, rfl, by decide +kernel, rfl, by decide +kernel, by decide +kernel⟩
abbrev s_number_of : Stmt := topS 4
abbrev N_number_of : List Str := ["symbols", "base", "number", "symbol"]
theorem sc_number_of : FnScope N_number_of ["symbols", "base"] (defScope s_number_of) := ⟨rfl, rfl, rfl, by decide +kernel, rfl, by decide +kernel, by decide +kernel⟩
abbrev s_symbols_of : Stmt := topS 5
abbrev N_symbols_of : List Str := ["number", "base", "symbols", "symbol"]
theorem sc_symbols_of : FnScope N_symbols_of ["number", "base"] (defScope s_symbols_of) := ⟨rfl, rfl, rfl, by decide +kernel, rfl, by decide +kernel, by decide +kernel⟩
abbrev s_law_like : Stmt := topS 8
abbrev N_law_like : List Str := ["actual", "due", "k"]
theorem sc_law_like : FnScope N_law_like ["actual", "due"] (defScope s_law_like) := ⟨rfl, rfl, rfl, by decide +kernel, rfl, by decide +kernel, by decide +kernel⟩
abbrev s_law_strip : Stmt := topS 9
abbrev N_law_strip : List Str := ["symbols", "size", "k"]
theorem sc_law_strip : FnScope N_law_strip ["symbols"] (defScope s_law_strip) := ⟨rfl, rfl, rfl, by decide +kernel, rfl, by decide +kernel, by decide +kernel⟩
abbrev s_law_number : Stmt := topS 10
abbrev N_law_number : List Str := ["symbols", "base", "number", "symbol"]
theorem sc_law_number : FnScope N_law_number ["symbols", "base"] (defScope s_law_number) := ⟨rfl, rfl, rfl, by decide +kernel, rfl, by decide +kernel, by decide +kernel⟩
abbrev s_law_pool : Stmt := topS 11
abbrev N_law_pool : List Str := ["script", "salt", "cell"]
theorem sc_law_pool : FnScope N_law_pool ["script"] (defScope s_law_pool) := ⟨rfl, rfl, rfl, by decide +kernel, rfl, by decide +kernel, by decide +kernel⟩
abbrev s_law_spread : Stmt := topS 12
abbrev N_law_spread : List Str := ["cell", "mixed", "total", "k"]
theorem sc_law_spread : FnScope N_law_spread ["cell"] (defScope s_law_spread) := ⟨rfl, rfl, rfl, by decide +kernel, rfl, by decide +kernel, by decide +kernel⟩
abbrev s_law_draw : Stmt := topS 13
abbrev N_law_draw : List Str := ["pool", "many", "cell", "mixed", "value"]
theorem sc_law_draw : FnScope N_law_draw ["pool", "many"] (defScope s_law_draw) := ⟨rfl, rfl, rfl, by decide +kernel, rfl, by decide +kernel, by decide +kernel⟩
abbrev s_law : Stmt := topS 14
abbrev N_law : List Str := ["script", "pool", "base", "word", "due", "left", "right", "here", "tape", "number", "great", "k", "symbols", "one"]
theorem sc_law : FnScope N_law ["script"] (defScope s_law) := ⟨rfl, rfl, rfl, by decide +kernel, rfl, by decide +kernel, by decide +kernel⟩

structure Txt (mg : Str → Option Value) : Prop where
  n_len : mg "len" = none
  n_all : mg "all" = none
  n_bool : mg "bool" = none
  n_divmod : mg "divmod" = none
  n_int : mg "int" = none
  n_isinstance : mg "isinstance" = none
  n_list : mg "list" = none
  n_range : mg "range" = none
  n_reversed : mg "reversed" = none
  n_str : mg "str" = none
  n_tuple : mg "tuple" = none
  m_BLANK : ∃ u, mg "BLANK" = some u ∧ RelV (.int 0) u
/-! ## the mathematics -/
def strip (ns : List Int) : List Int := (ns.reverse.dropWhile (· == 0)).reverse
def num (b : Int) : List Int → Int
  | [] => 0
  | x :: r => x + b * num b r
theorem strip_zero {ns : List Int} {e : Nat} (h : ns[e]? = some 0) : strip (ns.take (e + 1)) = strip (ns.take e) := by
  obtain ⟨hl, he⟩ := List.getElem?_eq_some_iff.mp h
  unfold strip
  rw [List.take_succ, h]
  simp
theorem strip_done {ns : List Int} {e : Nat} {x : Int} (h : ns[e]? = some x) (hx : x ≠ 0) : strip (ns.take (e + 1)) = ns.take (e + 1) := by
  unfold strip
  rw [List.take_succ, h]
  simp [hx]
theorem strip_nil : strip [] = [] := rfl
theorem num_drop {b : Int} {ns : List Int} {j : Nat} {x : Int} (h : ns[j]? = some x) : num b (ns.drop j) = x + b * num b (ns.drop (j + 1)) := by
  obtain ⟨hl, he⟩ := List.getElem?_eq_some_iff.mp h
  rw [List.drop_eq_getElem_cons hl, he]
  rfl
theorem strip_len (ns : List Int) : (strip ns).length ≤ ns.length := by
  unfold strip
  rw [List.length_reverse]
  have h := (List.dropWhile_sublist (l := ns.reverse) (· == 0)).length_le
  rw [List.length_reverse] at h
  exact h

/-! digits -/
theorem num_append (b x : Int) : ∀ ns : List Int, num b (ns ++ [x]) = num b ns + b ^ ns.length * x
  | [] => by simp [num]
  | y :: ns => by
    rw [List.cons_append, num, num_append b x ns, num, List.length_cons, Int.pow_succ, Int.mul_add, ← Int.add_assoc, Int.mul_comm (b ^ ns.length) b, Int.mul_assoc]
/-- no zero at the end -/
def Ends (ns : List Int) : Prop := strip ns = ns
theorem ends_last {ns : List Int} {x : Int} (h : x ≠ 0) : Ends (ns ++ [x]) := by
  unfold Ends strip
  simp [h]
theorem ends_nil : Ends [] := rfl
theorem ends_last_ne {ns : List Int} {x : Int} (h : Ends (ns ++ [x])) : x ≠ 0 := by
  intro e
  subst e
  unfold Ends strip at h
  have h1 := congrArg List.length h
  have h2 := (List.dropWhile_sublist (l := ns.reverse) (· == 0)).length_le
  simp at h1 h2
  omega
theorem num_nonneg {b : Int} (hb : 0 ≤ b) : ∀ {ns : List Int}, InB b ns → 0 ≤ num b ns
  | [], _ => by simp [num]
  | x :: ns, h => by
    have h1 := (h x List.mem_cons_self).1
    have h2 := num_nonneg hb (ns := ns) fun y hy => h y (List.mem_cons_of_mem _ hy)
    have h3 : 0 ≤ b * num b ns := Int.mul_nonneg hb h2
    rw [num]
    omega
theorem ends_tail {x : Int} {ns : List Int} (h : Ends (x :: ns)) : Ends ns := by
  cases ns.eq_nil_or_concat with
  | inl e =>
    rw [e]
    exact ends_nil
  | inr e =>
    obtain ⟨l, y, e⟩ := e
    rw [List.concat_eq_append] at e
    subst e
    exact ends_last (ends_last_ne (ns := x :: l) h)
theorem num_zero {b : Int} (hb : 2 ≤ b) : ∀ {ns : List Int}, InB b ns → Ends ns → num b ns = 0 → ns = []
  | [], _, _, _ => rfl
  | x :: ns, h, e, z => by
    have hx := h x List.mem_cons_self
    have hn : InB b ns := fun y hy => h y (List.mem_cons_of_mem _ hy)
    have h0 := num_nonneg (by omega) hn
    rw [num] at z
    have h1 : 0 ≤ b * num b ns := Int.mul_nonneg (by omega) h0
    have hx0 : x = 0 := by omega
    have hz : b * num b ns = 0 := by omega
    have hz2 : num b ns = 0 := by
      rcases Int.mul_eq_zero.mp hz with q | q
      · omega
      · exact q
    have := num_zero hb hn (ends_tail e) hz2
    subst this
    subst hx0
    exact absurd rfl (ends_last_ne (ns := []) e)
theorem num_unique {b : Int} (hb : 2 ≤ b) : ∀ {ns ms : List Int}, InB b ns → InB b ms → Ends ns → Ends ms → num b ns = num b ms → ns = ms
  | [], ms, _, h, _, e, q => (num_zero hb h e (by rw [← q]; rfl)).symm
  | x :: ns, [], h, _, e, _, q => num_zero hb h e q
  | x :: ns, y :: ms, h1, h2, e1, e2, q => by
    have hx := h1 x List.mem_cons_self
    have hy := h2 y List.mem_cons_self
    rw [num, num] at q
    have q1 : (x + b * num b ns) % b = (y + b * num b ms) % b := by rw [q]
    rw [Int.add_mul_emod_self_left, Int.add_mul_emod_self_left, Int.emod_eq_of_lt hx.1 hx.2, Int.emod_eq_of_lt hy.1 hy.2] at q1
    subst q1
    have q2 : num b ns = num b ms := by
      have q3 : b * num b ns = b * num b ms := by omega
      exact Int.eq_of_mul_eq_mul_left (by omega) q3
    rw [num_unique hb (fun z hz => h1 z (List.mem_cons_of_mem _ hz)) (fun z hz => h2 z (List.mem_cons_of_mem _ hz)) (ends_tail e1) (ends_tail e2) q2]
theorem strip_spec (ns : List Int) : ∃ k, ns = strip ns ++ List.replicate k 0 := by
  unfold strip
  refine ⟨(ns.reverse.takeWhile (· == 0)).length, ?_⟩
  have h := List.takeWhile_append_dropWhile (p := (· == (0 : Int))) (l := ns.reverse)
  have h2 : ns.reverse.takeWhile (· == 0) = List.replicate (ns.reverse.takeWhile (· == 0)).length 0 := by
    apply List.eq_replicate_of_mem
    intro x hx
    have hp := List.all_takeWhile (p := (· == (0 : Int))) (l := ns.reverse)
    rw [List.all_eq_true] at hp
    exact eq_of_beq (hp x hx)
  have h3 := congrArg List.reverse h
  rw [List.reverse_append, List.reverse_reverse, h2, List.reverse_replicate] at h3
  simpa using h3.symm
theorem strip_ends (ns : List Int) : Ends (strip ns) := by
  unfold Ends strip
  rw [List.reverse_reverse]
  congr 1
  generalize ns.reverse = l
  induction l with
  | nil => rfl
  | cons x l ih =>
    by_cases hx : (x == 0) = true
    · rw [List.dropWhile_cons_of_pos (p := (· == (0 : Int))) hx]
      exact ih
    · rw [List.dropWhile_cons_of_neg (p := (· == (0 : Int))) hx, List.dropWhile_cons_of_neg (p := (· == (0 : Int))) hx]
theorem num_zeros (b : Int) : ∀ k, num b (List.replicate k 0) = 0
  | 0 => rfl
  | k + 1 => by rw [List.replicate_succ, num, num_zeros b k]; omega
theorem num_app (b : Int) (ms : List Int) : ∀ ns : List Int, num b (ns ++ ms) = num b ns + b ^ ns.length * num b ms
  | [] => by simp [num]
  | y :: ns => by
    rw [List.cons_append, num, num_app b ms ns, num, List.length_cons, Int.pow_succ, Int.mul_add, ← Int.add_assoc, Int.mul_comm (b ^ ns.length) b, Int.mul_assoc]
theorem num_strip (b : Int) (ns : List Int) : num b (strip ns) = num b ns := by
  obtain ⟨k, hk⟩ := strip_spec ns
  have h := num_app b (List.replicate k 0) (strip ns)
  rw [num_zeros, ← hk] at h
  omega
theorem strip_inB {b : Int} {ns : List Int} (h : InB b ns) : InB b (strip ns) := fun x hx => by
  obtain ⟨k, hk⟩ := strip_spec ns
  exact h x (by rw [hk]; exact List.mem_append_left _ hx)
end K04

set_option maxHeartbeats 4000000
namespace K04
open PySem L2 Ly
local macro_rules | `(tactic| walk_at "side") => `(tactic| first | rfl | decide | omega | (simp only [List.length_cons, List.length_nil, List.length_map, List.length_append, List.length_reverse, List.length_drop, List.length_take]; omega) | exact Or.inl ⟨by omega, by omega⟩ | exact Or.inr ⟨by omega, by omega⟩ | exact ⟨by omega, by omega⟩ | skip)
local macro_rules | `(tactic| walk_at "ev") => `(tactic| first
  | with_reducible exact v_int | with_reducible exact v_bl | with_reducible exact v_str | with_reducible exact v_non
  | with_reducible exact v_var rfl | exact v_var rfl
  | (with_reducible refine v_add ?_ ?_ <;> walk_at "ev")
  | (with_reducible refine v_sub ?_ ?_ <;> walk_at "ev")
  | (with_reducible refine v_mul ?_ ?_ ?_; (focus (walk_at "ev")); (focus (walk_at "ev")); walk_at "side")
  | (with_reducible refine v_mod ?_ ?_ ?_; (focus (walk_at "ev")); (focus (walk_at "ev")); walk_at "side")
  | (with_reducible refine v_fdiv ?_ ?_ ?_; (focus (walk_at "ev")); (focus (walk_at "ev")); walk_at "side")
  | (with_reducible refine v_lt ?_ ?_ <;> walk_at "ev")
  | (with_reducible refine v_le ?_ ?_ <;> walk_at "ev")
  | (with_reducible refine v_gt ?_ ?_ <;> walk_at "ev")
  | (with_reducible refine v_ge ?_ ?_ <;> walk_at "ev")
  | (with_reducible refine v_int1 ?_; walk_at "ev")
  | (with_reducible refine v_revT ?_; walk_at "ev")
  | (with_reducible refine v_lenT ?_; walk_at "ev")
  | (with_reducible refine v_lenL ?_; walk_at "ev")
  | (with_reducible refine v_slT ?_ ?_ ?_ <;> walk_at "ev")
  | (with_reducible refine n_slL ?_ ?_ ?_ <;> walk_at "ev")
  | with_reducible exact o_none | (with_reducible refine o_some ?_; walk_at "ev")
  | (with_reducible refine v_cat ?_ ?_ ?_; (focus (walk_at "ev")); (focus (walk_at "ev")); walk_at "side")
  | (with_reducible refine v_tupx ?_ ?_; (focus (walk_at "ev")); walk_at "side")
  | (with_reducible refine v_lstx ?_ ?_; (focus (walk_at "ev")); walk_at "side")
  | with_reducible exact a_nil | (with_reducible refine a_consx ?_ ?_ <;> walk_at "ev")
  | (with_reducible refine v_tupleLx ?_; walk_at "ev")
  | (with_reducible refine v_tupleTx ?_; walk_at "ev")
  | (with_reducible refine b_testx ?_; walk_at "ev")
  | (with_reducible refine b_Bx ?_; walk_at "ev")
  | (with_reducible refine b_notx ?_; walk_at "ev")
  | (refine b_truT ?_; walk_at "ev")
  | (refine b_truL ?_; walk_at "ev")
  | (with_reducible refine v_isNx ?_; walk_at "ev"))

section
variable {P : Program} {w : World} {K : PySem.W.Frag} {mg : Str → Option Value} {base : Heap}
theorem like_scal {K : PySem.W.Frag} {Γ : List (Option Dat)} {i : Nat} {d : Dat} {T : String} {c : Bool} (h : Γ[i]? = some (some d)) (ht : typed d = true) (hk : kitB (tyN d) T = some c) : EvBX Wd0 K (tB (tCB (rIsi K) (tCons (tVar i) (tCons (tC (.ty T)) tNil)))) Γ c := b_Bx (v_is h ht hk)
theorem ok_like0 (D : Df K mg "_law_like" s_law_like) (T : Txt mg) : C8.Cal P w K mg base 1 "_law_like" (spOf Wd0 K (A_like 0)) [] := by
  refine cal_of D (fun _ _ _ _ _ _ us hl => match us, hl with | [_, _], _ => rfl) sc_law_like (spOf_len (n := 2) fun _ _ ⟨_, _, e, _⟩ => by rw [e]; rfl) fun f cdv A outer s H0 vs Q E hr h => ⟨_, (pss_cons (ps_if (pt_cmp (pc_isN (pv 1))) (pss_one (ps_ret (pe_cmp (pc_isN (pv 0))))) pss_nil)
      (pss_cons (ps_if (pt_val (pe_callB (r := rIsi K) call_isi (by rfl) T.n_isinstance (by decide +kernel) (pa_cons (pv 1) (pa_cons (pe_bltn (v := .ty "bool") rfl T.n_bool (by decide +kernel) rfl) pa_nil)))) (pss_one (ps_ret (pe_and (pe_callB (r := rIsi K) call_isi (by rfl) T.n_isinstance (by decide +kernel) (pa_cons (pv 0) (pa_cons (pe_bltn (v := .ty "bool") rfl T.n_bool (by decide +kernel) rfl) pa_nil))) (pe_one (pe_cmpR op_eq (pv 0) (pv 1) (nomark _)))))) pss_nil)
      (pss_cons (ps_if (pt_val (pe_callB (r := rIsi K) call_isi (by rfl) T.n_isinstance (by decide +kernel) (pa_cons (pv 1) (pa_cons (pe_bltn (v := .ty "str") rfl T.n_str (by decide +kernel) rfl) pa_nil)))) (pss_one (ps_ret (pe_and (pe_callB (r := rIsi K) call_isi (by rfl) T.n_isinstance (by decide +kernel) (pa_cons (pv 0) (pa_cons (pe_bltn (v := .ty "str") rfl T.n_str (by decide +kernel) rfl) pa_nil))) (pe_one (pe_cmpR op_eq (pv 0) (pv 1) (nomark _)))))) pss_nil)
      (pss_cons (ps_if (pt_val (pe_callB (r := rIsi K) call_isi (by rfl) T.n_isinstance (by decide +kernel) (pa_cons (pv 1) (pa_cons (pe_bltn (v := .ty "int") rfl T.n_int (by decide +kernel) rfl) pa_nil)))) (pss_one (ps_ret (pe_and (pe_callB (r := rIsi K) call_isi (by rfl) T.n_isinstance (by decide +kernel) (pa_cons (pv 0) (pa_cons (pe_bltn (v := .ty "int") rfl T.n_int (by decide +kernel) rfl) pa_nil))) (pe_and (pe_not (pe_callB (r := rIsi K) call_isi (by rfl) T.n_isinstance (by decide +kernel) (pa_cons (pv 0) (pa_cons (pe_bltn (v := .ty "bool") rfl T.n_bool (by decide +kernel) rfl) pa_nil)))) (pe_one (pe_cmpR op_eq (pv 0) (pv 1) (nomark _))))))) pss_nil)
      pss_never)))), ?_⟩
  obtain ⟨G0, ds, P, k, r, ⟨d, pl, rfl, rfl⟩, q⟩ := h
  have S := S4.start (N := N_law_like) k r
  cases d with
  | non => exact q_when (b_Bx (v_isNx (v_var rfl))) S (fun _ G H S => g_ret (P := (· = .bl true)) (EvX.to (v_isNx (v_var (d := .non) rfl)) rfl) S q) (fun e => nomatch e)
  | bl b =>
    refine q_when (b_Bx (v_isNx (v_var rfl))) S (fun e => nomatch e) fun _ G H S => ?_
    refine q_when (like_scal (d := (.bl b)) (c := true) rfl rfl kb_bool_bool) S (fun _ G H S => ?_) (fun e => nomatch e)
    exact g_ret (EvX.to (v_andx (v_is (d := (.bl b)) (c := true) rfl rfl kb_bool_bool) fun _ => v_eqB (v_var rfl) (v_var rfl)) (by simp)) S q
  | str x =>
    refine q_when (b_Bx (v_isNx (v_var rfl))) S (fun e => nomatch e) fun _ G H S => ?_
    refine q_when (like_scal (d := (.str x)) (c := false) rfl rfl kb_str_bool) S (fun e => nomatch e) fun _ G H S => ?_
    refine q_when (like_scal (d := (.str x)) (c := true) rfl rfl kb_str_str) S (fun _ G H S => ?_) (fun e => nomatch e)
    exact g_ret (EvX.to (v_andx (v_is (d := (.str x)) (c := true) rfl rfl kb_str_str) fun _ => v_eqS (v_var rfl) (v_var rfl)) (by simp)) S q
  | int i =>
    refine q_when (b_Bx (v_isNx (v_var rfl))) S (fun e => nomatch e) fun _ G H S => ?_
    refine q_when (like_scal (d := (.int i)) (c := false) rfl rfl kb_int_bool) S (fun e => nomatch e) fun _ G H S => ?_
    refine q_when (like_scal (d := (.int i)) (c := false) rfl rfl kb_int_str) S (fun e => nomatch e) fun _ G H S => ?_
    refine q_when (like_scal (d := (.int i)) (c := true) rfl rfl kb_int_int) S (fun _ G H S => ?_) (fun e => nomatch e)
    exact g_ret (EvX.to (v_andx (v_is (d := (.int i)) (c := true) rfl rfl kb_int_int) fun _ => v_andx (v_notx (v_is (d := (.int i)) (c := false) rfl rfl kb_int_bool)) fun _ => v_eqI (v_var rfl) (v_var rfl)) (by simp)) S q
  | _ => simp [Pl] at pl
theorem ok_likeS {n : Nat} (D : Df K mg "_law_like" s_law_like) (T : Txt mg) (c_law_like : C8.Cal P w K mg base (n + 1) "_law_like" (spOf Wd0 K (A_like n)) []) : C8.Cal P w K mg base (n + 2) "_law_like" (spOf Wd0 K (A_like (n + 1))) [] := by
  refine cal_of D (fun _ _ _ _ _ _ us hl => match us, hl with | [_, _], _ => rfl) sc_law_like (spOf_len (n := 2) fun _ _ ⟨_, _, e, _⟩ => by rw [e]; rfl) fun f cdv A outer s H0 vs Q E hr h => ⟨_, (pss_cons (ps_if (pt_cmp (pc_isN (pv 1))) (pss_one (ps_ret (pe_cmp (pc_isN (pv 0))))) pss_nil)
      (pss_cons (ps_if (pt_val (pe_callB (r := rIsi K) call_isi (by rfl) T.n_isinstance (by decide +kernel) (pa_cons (pv 1) (pa_cons (pe_bltn (v := .ty "bool") rfl T.n_bool (by decide +kernel) rfl) pa_nil)))) (pss_one (ps_ret (pe_and (pe_callB (r := rIsi K) call_isi (by rfl) T.n_isinstance (by decide +kernel) (pa_cons (pv 0) (pa_cons (pe_bltn (v := .ty "bool") rfl T.n_bool (by decide +kernel) rfl) pa_nil))) (pe_one (pe_cmpR op_eq (pv 0) (pv 1) (nomark _)))))) pss_nil)
      (pss_cons (ps_if (pt_val (pe_callB (r := rIsi K) call_isi (by rfl) T.n_isinstance (by decide +kernel) (pa_cons (pv 1) (pa_cons (pe_bltn (v := .ty "str") rfl T.n_str (by decide +kernel) rfl) pa_nil)))) (pss_one (ps_ret (pe_and (pe_callB (r := rIsi K) call_isi (by rfl) T.n_isinstance (by decide +kernel) (pa_cons (pv 0) (pa_cons (pe_bltn (v := .ty "str") rfl T.n_str (by decide +kernel) rfl) pa_nil))) (pe_one (pe_cmpR op_eq (pv 0) (pv 1) (nomark _)))))) pss_nil)
      (pss_cons (ps_if (pt_val (pe_callB (r := rIsi K) call_isi (by rfl) T.n_isinstance (by decide +kernel) (pa_cons (pv 1) (pa_cons (pe_bltn (v := .ty "int") rfl T.n_int (by decide +kernel) rfl) pa_nil)))) (pss_one (ps_ret (pe_and (pe_callB (r := rIsi K) call_isi (by rfl) T.n_isinstance (by decide +kernel) (pa_cons (pv 0) (pa_cons (pe_bltn (v := .ty "int") rfl T.n_int (by decide +kernel) rfl) pa_nil))) (pe_and (pe_not (pe_callB (r := rIsi K) call_isi (by rfl) T.n_isinstance (by decide +kernel) (pa_cons (pv 0) (pa_cons (pe_bltn (v := .ty "bool") rfl T.n_bool (by decide +kernel) rfl) pa_nil)))) (pe_one (pe_cmpR op_eq (pv 0) (pv 1) (nomark _))))))) pss_nil)
      (pss_cons (ps_if (PW.pt (pw_or (pt_cmpR op_ne (pe_callB (r := rIsi K) call_isi (by rfl) T.n_isinstance (by decide +kernel) (pa_cons (pv 1) (pa_cons (pe_bltn (v := .ty "list") rfl T.n_list (by decide +kernel) rfl) pa_nil))) (pe_callB (r := rIsi K) call_isi (by rfl) T.n_isinstance (by decide +kernel) (pa_cons (pv 0) (pa_cons (pe_bltn (v := .ty "list") rfl T.n_list (by decide +kernel) rfl) pa_nil))) (nomark _)) (pw_or1 (pt_cmpR op_ne (pe_callB (r := rIsi K) call_isi (by rfl) T.n_isinstance (by decide +kernel) (pa_cons (pv 1) (pa_cons (pe_bltn (v := .ty "tuple") rfl T.n_tuple (by decide +kernel) rfl) pa_nil))) (pe_callB (r := rIsi K) call_isi (by rfl) T.n_isinstance (by decide +kernel) (pa_cons (pv 0) (pa_cons (pe_bltn (v := .ty "tuple") rfl T.n_tuple (by decide +kernel) rfl) pa_nil))) (nomark _))))) (pss_one (ps_ret pe_bl)) pss_nil)
      (pss_cons (ps_if (pt_cmpR op_ne (pe_callB (r := Ly.rLen K) call_len_seq (by rfl) T.n_len PySem.boot_len (pa_cons (pv 0) pa_nil)) (pe_callB (r := Ly.rLen K) call_len_seq (by rfl) T.n_len PySem.boot_len (pa_cons (pv 1) pa_nil)) (nomark _)) (pss_one (ps_ret pe_bl)) pss_nil)
      (pss_one (ps_ret (pe_callB (r := rAll K) (cr_all rfl) (by rfl) T.n_all (by decide +kernel) (pa_cons (pe_lc (own := [("k", 2)]) (g := gName 2) (tt := tYes) rfl sc_law_like.nd (pi_range1 rfl T.n_range (pa_cons (pe_callB (r := Ly.rLen K) call_len_seq (by rfl) T.n_len PySem.boot_len (pa_cons (pv 1) pa_nil)) pa_nil)) (blkOk_by (N := N_law_like) (sc := defScope s_law_like) (by decide +kernel)) (fun _ _ _ _ _ => pg_name (i := 2) sc_law_like.nd rfl (Or.inl rfl)) (fun _ _ _ _ _ => pts_nil) (fun _ _ _ _ _ => (C8.pe_c c_law_like hr (Nat.le_refl _) rfl (pa_cons (pe_ix (r := rIx K) ix_seq (pv 0) (pv 2) (fun _ _ => rfl)) (pa_cons (pe_ix (r := rIx K) ix_seq (pv 1) (pv 2) (fun _ _ => rfl)) pa_nil))))) pa_nil)))))))))), ?_⟩
  obtain ⟨G0, ds, P, k, r, ⟨d, pl, rfl, rfl⟩, q⟩ := h
  have S := S4.start (N := N_law_like) k r
  cases d with
  | non => exact q_when (b_Bx (v_isNx (v_var rfl))) S (fun _ G H S => g_ret (P := (· = .bl true)) (EvX.to (v_isNx (v_var (d := .non) rfl)) rfl) S q) (fun e => nomatch e)
  | bl b =>
    refine q_when (b_Bx (v_isNx (v_var rfl))) S (fun e => nomatch e) fun _ G H S => ?_
    refine q_when (like_scal (d := (.bl b)) (c := true) rfl rfl kb_bool_bool) S (fun _ G H S => ?_) (fun e => nomatch e)
    exact g_ret (EvX.to (v_andx (v_is (d := (.bl b)) (c := true) rfl rfl kb_bool_bool) fun _ => v_eqB (v_var rfl) (v_var rfl)) (by simp)) S q
  | str x =>
    refine q_when (b_Bx (v_isNx (v_var rfl))) S (fun e => nomatch e) fun _ G H S => ?_
    refine q_when (like_scal (d := (.str x)) (c := false) rfl rfl kb_str_bool) S (fun e => nomatch e) fun _ G H S => ?_
    refine q_when (like_scal (d := (.str x)) (c := true) rfl rfl kb_str_str) S (fun _ G H S => ?_) (fun e => nomatch e)
    exact g_ret (EvX.to (v_andx (v_is (d := (.str x)) (c := true) rfl rfl kb_str_str) fun _ => v_eqS (v_var rfl) (v_var rfl)) (by simp)) S q
  | int i =>
    refine q_when (b_Bx (v_isNx (v_var rfl))) S (fun e => nomatch e) fun _ G H S => ?_
    refine q_when (like_scal (d := (.int i)) (c := false) rfl rfl kb_int_bool) S (fun e => nomatch e) fun _ G H S => ?_
    refine q_when (like_scal (d := (.int i)) (c := false) rfl rfl kb_int_str) S (fun e => nomatch e) fun _ G H S => ?_
    refine q_when (like_scal (d := (.int i)) (c := true) rfl rfl kb_int_int) S (fun _ G H S => ?_) (fun e => nomatch e)
    exact g_ret (EvX.to (v_andx (v_is (d := (.int i)) (c := true) rfl rfl kb_int_int) fun _ => v_andx (v_notx (v_is (d := (.int i)) (c := false) rfl rfl kb_int_bool)) fun _ => v_eqI (v_var rfl) (v_var rfl)) (by simp)) S q
  | adr a => cases n <;> simp [Pl] at pl
  | obj a b => cases n <;> simp [Pl] at pl
  | dct a => cases n <;> simp [Pl] at pl
  | tup es =>
    rw [Pl] at pl
    refine q_when (b_Bx (v_isNx (v_var rfl))) S (fun e => nomatch e) fun _ G H S => ?_
    refine q_when (like_scal (d := (.tup es)) (c := false) rfl rfl kb_tuple_bool) S (fun e => nomatch e) fun _ G H S => ?_
    refine q_when (like_scal (d := (.tup es)) (c := false) rfl rfl kb_tuple_str) S (fun e => nomatch e) fun _ G H S => ?_
    refine q_when (like_scal (d := (.tup es)) (c := false) rfl rfl kb_tuple_int) S (fun e => nomatch e) fun _ G H S => ?_
    refine q_when (EvBX.to (b_orx (b_testx (v_neB (v_is (d := (.tup es)) (c := false) rfl rfl kb_tuple_list) (v_is (d := (.tup es)) (c := false) rfl rfl kb_tuple_list))) fun _ => b_testx (v_neB (v_is (d := (.tup es)) (c := true) rfl rfl kb_tuple_tuple) (v_is (d := (.tup es)) (c := true) rfl rfl kb_tuple_tuple))) (b := false) (by simp)) S (fun e => nomatch e) fun _ G H S => ?_
    refine q_when (EvBX.to (b_testx (v_neI (v_lenT (v_var rfl)) (v_lenT (v_var rfl)))) (b := false) (by simp)) S (fun e => nomatch e) fun _ G H S => ?_
    refine g_ret (P := (· = .bl true)) ?_ S q
    refine EvX.to (v_all (bs := List.replicate es.length true) (EvN.evx (R := (· = (List.replicate es.length true).map Dat.bl)) (n_lcR (fun _ i ds => ds = List.replicate i (.bl true)) (EvA.imp (a_consx (v_lenT (v_var rfl)) a_nil) fun ds e => ⟨_, e, ⟨by omega, by have := pl.1; omega⟩, rfl, fun i hi => ?_, fun ds e => by rw [e, List.map_replicate, Int.toNat_natCast]⟩)) fun ds e => e)) (by simp)
    have hlt : i < es.length := by omega
    have hx : es[i]? = some es[i] := List.getElem?_eq_getElem hlt
    refine tn_each (fun ds e => by rw [e, List.length_replicate]; have := pl.1; omega) fun ds e => ?_
    refine Ev.imp (v_call0x (P := (· = .bl true)) (a_consx (v_ixDT (v_var rfl) (v_var rfl) rfl hx) (a_consx (v_ixDT (v_var rfl) (v_var rfl) rfl hx) a_nil)) ⟨es[i], pl.2.get hx, rfl, rfl⟩) fun d ed => ?_
    rw [e, ed, List.replicate_succ']
  | lst es =>
    rw [Pl] at pl
    refine q_when (b_Bx (v_isNx (v_var rfl))) S (fun e => nomatch e) fun _ G H S => ?_
    refine q_when (like_scal (d := (.lst es)) (c := false) rfl rfl kb_list_bool) S (fun e => nomatch e) fun _ G H S => ?_
    refine q_when (like_scal (d := (.lst es)) (c := false) rfl rfl kb_list_str) S (fun e => nomatch e) fun _ G H S => ?_
    refine q_when (like_scal (d := (.lst es)) (c := false) rfl rfl kb_list_int) S (fun e => nomatch e) fun _ G H S => ?_
    refine q_when (EvBX.to (b_orx (b_testx (v_neB (v_is (d := (.lst es)) (c := true) rfl rfl kb_list_list) (v_is (d := (.lst es)) (c := true) rfl rfl kb_list_list))) fun _ => b_testx (v_neB (v_is (d := (.lst es)) (c := false) rfl rfl kb_list_tuple) (v_is (d := (.lst es)) (c := false) rfl rfl kb_list_tuple))) (b := false) (by simp)) S (fun e => nomatch e) fun _ G H S => ?_
    refine q_when (EvBX.to (b_testx (v_neI (v_lenL (v_var rfl)) (v_lenL (v_var rfl)))) (b := false) (by simp)) S (fun e => nomatch e) fun _ G H S => ?_
    refine g_ret (P := (· = .bl true)) ?_ S q
    refine EvX.to (v_all (bs := List.replicate es.length true) (EvN.evx (R := (· = (List.replicate es.length true).map Dat.bl)) (n_lcR (fun _ i ds => ds = List.replicate i (.bl true)) (EvA.imp (a_consx (v_lenL (v_var rfl)) a_nil) fun ds e => ⟨_, e, ⟨by omega, by have := pl.1; omega⟩, rfl, fun i hi => ?_, fun ds e => by rw [e, List.map_replicate, Int.toNat_natCast]⟩)) fun ds e => e)) (by simp)
    have hlt : i < es.length := by omega
    have hx : es[i]? = some es[i] := List.getElem?_eq_getElem hlt
    refine tn_each (fun ds e => by rw [e, List.length_replicate]; have := pl.1; omega) fun ds e => ?_
    refine Ev.imp (v_call0x (P := (· = .bl true)) (a_consx (v_ixDL (v_var rfl) (v_var rfl) rfl hx) (a_consx (v_ixDL (v_var rfl) (v_var rfl) rfl hx) a_nil)) ⟨es[i], pl.2.get hx, rfl, rfl⟩) fun d ed => ?_
    rw [e, ed, List.replicate_succ']
theorem ok_like (D : Df K mg "_law_like" s_law_like) (T : Txt mg) : ∀ n, C8.Cal P w K mg base (n + 1) "_law_like" (spOf Wd0 K (A_like n)) []
  | 0 => ok_like0 D T
  | n + 1 => ok_likeS D T (ok_like D T n)

theorem ok_pool (D : Df K mg "_law_pool" s_law_pool) (T : Txt mg) : C8.Cal P w K mg base 1 "_law_pool" (spPool K) [] := by
  refine cal_of D (fun _ _ _ _ _ _ us hl => match us, hl with | [_], _ => rfl) sc_law_pool (fun vs H Q E ⟨_, _, _, r, _⟩ => r.length) fun f cdv A outer s H0 vs Q E hr h => ⟨_, (pss_cons (ps_set (i := 1) sc_law_pool.nd rfl (by first | exact Or.inl rfl | exact Or.inr rfl) pe_int)
      (pss_cons (ps_for PassesOwn.never rfl (pi_list (pe_slice (r := rSlL K) sl_list (pv 0) po_none (po_some pe_int))) (pg_name (i := 2) sc_law_pool.nd rfl (by first | exact Or.inl rfl | exact Or.inr rfl))
        (pss_one (ps_set (i := 1) sc_law_pool.nd rfl (by first | exact Or.inl rfl | exact Or.inr rfl) (pe_op op_mod (pe_callTy call_int1 (by rfl) T.n_int (by decide +kernel) (pa_cons (pe_op op_add (pe_op op_mul (pv 1) pe_int) (pv 2)) pa_nil)) pe_int))))
      (pss_one (ps_ret (pe_lst (pa_cons (pe_callTy call_list_of (by rfl) T.n_list (by decide +kernel) (pa_cons (pv 0) pa_nil)) (pa_cons pe_int (pa_cons pe_int (pa_cons pe_int (pa_cons (pv 1) pa_nil)))))))))), ?_⟩
  obtain ⟨G0, ns, k, r, hl, q⟩ := h
  have S := S4.start (N := N_law_pool) k r
  refine q_setx v_int S fun σ G H S => ?_
  refine q_forL (n_slL (v_var rfl) o_none (o_some v_int)) S (fun i Γ O => O = [] ∧ ∃ z s, Γ = [some (.lst (dI ns)), some (.int s), z]) ⟨rfl, none, 7, rfl⟩ ?_ ?_
  · rintro G1 i d Γ O σ G H hd ⟨rfl, z, s, rfl⟩ S
    obtain ⟨x, rfl⟩ : ∃ x, d = .int x := by
      have hm : d ∈ cutD (dI ns) none (some 63) := List.mem_of_getElem? hd
      have hm2 : d ∈ dI ns := List.mem_of_mem_drop (List.mem_of_mem_take hm)
      obtain ⟨x, _, e⟩ := List.mem_map.mp hm2
      exact ⟨x, e.symm⟩
    refine g_setx (v_mod (v_int1 (v_add (v_mul (v_var rfl) v_int (.inr ⟨by omega, by omega⟩)) (v_var rfl))) v_int (by omega)) S fun σ G H S => ⟨_, _, _, ⟨rfl, some (.int x), _, rfl⟩, S⟩
  · rintro Γ O σ G H ⟨rfl, z, s, rfl⟩ S
    refine n_listL (K := K) (ta := tVar 0) (v_var (i := 0) (d := .lst (dI ns)) rfl) σ G H S.env S.ok (fun x H1 => (tCons (tC (.int 0)) (tCons (tC (.int 0)) (tCons (tC (.int 0)) (tCons (tVar 1) tNil)))) σ H1 fun xs H2 => (x :: xs).length ≤ sizeLine ∧ ∀ p, H2 p = none → Q (.ref p) (upd H2 p (.lst (x :: xs)))) fun c xs ds G2 H2 st h0 g2 h2 r e => ?_
    subst e
    have S2 := S.step st
    have ex : xs = ns.map V.int := r.ints
    subst ex
    refine v_var (K := K) (d := .int s) (i := 1) rfl σ G2 H2 S2.env S2.ok (fun x H2 => [V.ref c, .int 0, .int 0, .int 0, x].length ≤ sizeLine ∧ ∀ p, H2 p = none → Q (.ref p) (upd H2 p (.lst [V.ref c, .int 0, .int 0, .int 0, x]))) fun v d G3 H3 st3 e r3 => ?_
    subst e
    cases r3
    have S3 := S2.step st3
    have h3 := st3.ex0 _ _ h2
    refine ⟨by show 5 ≤ sizeLine; decide, fun p hp => ?_⟩
    have npc : p ≠ c := fun e => by
      rw [e, h3] at hp
      cases hp
    refine q p c _ (fun a o ha => ?_) ((back S3.stp hp).1) ((back S.stp h0).1) ⟨npc, by rw [upd_ne (Ne.symm npc)]; exact h3, 0, 0, 0, s, by omega, upd_same⟩
    have h4 := S3.stp.ex0 a o ha
    rw [upd_ne (ne_of_none h4 hp)]
    exact h4
theorem ok_spread (D : Df K mg "_law_spread" s_law_spread) (T : Txt mg) : C8.Cal P w K mg base 1 "_law_spread" (spOf Wd0 K A_spread) [] := by
  refine cal_of D (fun _ _ _ _ _ _ us hl => match us, hl with | [_], _ => rfl) sc_law_spread (spOf_len (n := 1) fun _ _ ⟨_, e, _⟩ => by rw [e]; rfl) fun f cdv A outer s H0 vs Q E hr h => ⟨_, (pss_cons (ps_set (i := 1) sc_law_spread.nd rfl (by first | exact Or.inl rfl | exact Or.inr rfl) (pe_op op_mod (pe_callTy call_int1 (by rfl) T.n_int (by decide +kernel) (pa_cons (pv 0) pa_nil)) pe_int))
      (pss_cons (ps_set (i := 2) sc_law_spread.nd rfl (by first | exact Or.inl rfl | exact Or.inr rfl) pe_int)
      (pss_cons (ps_for PassesOwn.never rfl (pi_range1 rfl T.n_range (pa_cons pe_int pa_nil)) (pg_name (i := 3) sc_law_spread.nd rfl (by first | exact Or.inl rfl | exact Or.inr rfl))
        (pss_cons (ps_set (i := 1) sc_law_spread.nd rfl (by first | exact Or.inl rfl | exact Or.inr rfl) (pe_op op_mod (pe_callTy call_int1 (by rfl) T.n_int (by decide +kernel) (pa_cons (pe_op op_add (pe_op op_add (pe_op op_mul (pv 1) pe_int) pe_int) (pv 3)) pa_nil)) pe_int))
      (pss_one (ps_set (i := 2) sc_law_spread.nd rfl (by first | exact Or.inl rfl | exact Or.inr rfl) (pe_op op_add (pe_op op_mul (pv 2) pe_int) (pv 1))))))
      (pss_one (ps_ret (pv 2)))))), ?_⟩
  obtain ⟨G0, ds, P, k, r, ⟨x, rfl, rfl⟩, q⟩ := h
  have S := S4.start (N := N_law_spread) k r
  refine q_setx (v_mod (v_int1 (v_var rfl)) v_int (by omega)) S fun σ G H S => ?_
  refine q_setx v_int S fun σ G H S => ?_
  refine q_for1 (a_consx v_int a_nil) (by omega) S (fun i Γ O => O = [] ∧ ∃ m t z, Γ = [some (.int x), some (.int m), some (.int t), z]) ⟨rfl, _, _, none, rfl⟩ ?_ ?_ (by omega)
  · rintro i Γ O σ G H hi ⟨rfl, m, t, z, rfl⟩ S
    refine q_setx (v_mod (v_int1 (v_add (v_add (v_mul (v_var rfl) v_int (.inr ⟨by omega, by omega⟩)) v_int) (v_var rfl))) v_int (by omega)) S fun σ G H S => ?_
    refine g_setx (v_add (v_mul (v_var rfl) v_int (.inr ⟨by omega, by omega⟩)) (v_var rfl)) S fun σ G H S => ⟨_, _, _, ⟨rfl, _, _, some (.int (i : Int)), rfl⟩, S⟩
  · rintro Γ O σ G H ⟨rfl, m, t, z, rfl⟩ S
    exact g_ret (EvX.any (v_var rfl) ⟨t, rfl⟩) S q
theorem ok_draw (D : Df K mg "_law_draw" s_law_draw) (T : Txt mg) (c_law_spread : C8.Cal P w K mg base 1 "_law_spread" (spOf Wd0 K A_spread) []) : C8.Cal P w K mg base 2 "_law_draw" (spDraw K) [] := by
  refine cal_of D (fun _ _ _ _ _ _ us hl => match us, hl with | [_, _], _ => rfl) sc_law_draw (fun vs H Q E ⟨_, _, _, _, _, _, _, r, ⟨_, _, _, e, _⟩, _⟩ => by rw [r.length, e]; rfl) fun f cdv A outer s H0 vs Q E hr h => ⟨_, (Evl.pss_cut (ps_if (PW.pt (pw_and (pt_cmpR op_le (pe_ix (r := rIxL K) ix_list (pv 0) pe_int (fun _ _ => rfl)) pe_int (nomark _)) (pw_and1 (pt_cmpR op_lt (pe_ix (r := rIxL K) ix_list (pv 0) pe_int (fun _ _ => rfl)) (pe_callB (r := Ly.rLen K) call_len_seq (by rfl) T.n_len PySem.boot_len (pa_cons (pe_ix (r := rIxL K) ix_list (pv 0) pe_int (fun _ _ => rfl)) pa_nil)) (nomark _))))) (pss_cons (ps_set (i := 2) sc_law_draw.nd rfl (by first | exact Or.inl rfl | exact Or.inr rfl) (pe_ix (r := rIxL K) ix_list (pe_ix (r := rIxL K) ix_list (pv 0) pe_int (fun _ _ => rfl)) (pe_ix (r := rIxL K) ix_list (pv 0) pe_int (fun _ _ => rfl)) (fun _ _ => rfl)))
      (pss_cons (ps_asg (pe_op op_add (pe_ix (r := rIxL K) ix_list (pv 0) pe_int (fun _ _ => rfl)) pe_int) (pg_sub (pv 0) pe_int set_list))
      (pss_cons (ps_asg (pv 2) (pg_sub (pv 0) pe_int set_list))
      (pss_one (ps_if (pt_cmpR op_lt (pv 2) pe_int (nomark _)) (pss_one (ps_asg (C8.pe_c c_law_spread hr (by decide) rfl (pa_cons (pv 2) pa_nil)) (pg_sub (pv 0) pe_int set_list))) pss_nil))))) pss_nil)
      (pss_cons (ps_asg (pe_op op_add (pe_ix (r := rIxL K) ix_list (pv 0) pe_int (fun _ _ => rfl)) pe_int) (pg_sub (pv 0) pe_int set_list))
      (pss_cons (ps_if (pt_cmpR op_le (pe_ix (r := rIxL K) ix_list (pv 0) pe_int (fun _ _ => rfl)) pe_int (nomark _)) (pss_cons (ps_set (i := 3) sc_law_draw.nd rfl (by first | exact Or.inl rfl | exact Or.inr rfl) (pe_op op_mod (pe_callTy call_int1 (by rfl) T.n_int (by decide +kernel) (pa_cons (pe_op op_add (pe_op op_add (pe_op op_mul (pe_ix (r := rIxL K) ix_list (pv 0) pe_int (fun _ _ => rfl)) pe_int) (pe_op op_mul (pe_ix (r := rIxL K) ix_list (pv 0) pe_int (fun _ _ => rfl)) pe_int)) pe_int) pa_nil)) pe_int))
      (pss_cons (ps_set (i := 3) sc_law_draw.nd rfl (by first | exact Or.inl rfl | exact Or.inr rfl) (pe_op op_mod (pe_callTy call_int1 (by rfl) T.n_int (by decide +kernel) (pa_cons (pe_op op_add (pe_op op_mul (pv 3) pe_int) (pe_ix (r := rIxL K) ix_list (pv 0) pe_int (fun _ _ => rfl))) pa_nil)) pe_int))
      (pss_one (ps_ret (pe_op op_mod (pe_op op_fdiv (pv 3) pe_int) (pv 1)))))) pss_nil)
      (pss_cons (ps_set (i := 4) sc_law_draw.nd rfl (by first | exact Or.inl rfl | exact Or.inr rfl) (pe_op op_mod (pe_callTy call_int1 (by rfl) T.n_int (by decide +kernel) (pa_cons (pe_ix (r := rIxL K) ix_list (pv 0) pe_int (fun _ _ => rfl)) pa_nil)) (pv 1)))
      (pss_cons (ps_asg (pe_op op_fdiv (pe_ix (r := rIxL K) ix_list (pv 0) pe_int (fun _ _ => rfl)) (pv 1)) (pg_sub (pv 0) pe_int set_list))
      (pss_one (ps_ret (pv 4)))))))), ?_⟩
  obtain ⟨p, c, ns, G0, ds, P, k, r, ⟨many, hm0, hm1, rfl, rfl⟩, q⟩ := h
  obtain ⟨i, z, kk, sl, hi0, S⟩ := q_of_p (S4.start (N := N_law_draw) k r)
  refine q_cut (fun σ H => ∃ i z kk sl G x, 0 ≤ i ∧ S4 (WQ p c ns i z kk sl) K G0 G0 H0 [some (.adr p), some (.int many), x, none, none] [] σ G H) ?_ ?_
  · refine g_if (b_andx (b_testx (v_le (v_pool (j := 2) (v_var rfl) rfl) v_int)) fun _ => b_testx (v_lt (v_pool (j := 1) (v_var rfl) rfl) (v_poolLen (v_pool (j := 0) (v_var rfl) rfl)))) S (fun e G H S => ?_) (fun _ G H S => ⟨i, z, kk, sl, G, none, hi0, S⟩)
    have hlt : i < ns.length := by
      have e2 := (Bool.and_eq_true_iff.mp e.symm).2
      exact of_decide_eq_true e2
    have hx : ns[i.toNat]? = some ns[i.toNat] := List.getElem?_eq_getElem (by omega)
    refine q_setx (v_poolAt (v_pool (j := 0) (v_var rfl) rfl) (v_pool (j := 1) (v_var rfl) rfl) hi0 hx) S fun σ G H S => ?_
    refine q_pool (j := 1) (v_add (v_pool (j := 1) (v_var rfl) rfl) v_int) (v_var rfl) S (by omega) rfl fun G H S => ?_
    refine q_pool (j := 2) (v_var rfl) (v_var rfl) S (by omega) rfl fun G H S => ?_
    refine g_if (b_testx (v_lt (v_var rfl) v_int)) S (fun e G H S => ?_) (fun _ G H S => ⟨i + 1, _, kk, sl, G, _, by omega, S⟩)
    refine g_poolP (j := 2) (v_call0x (a_consx (v_var rfl) a_nil) ⟨_, rfl, rfl⟩) (v_var rfl) S (by omega) fun x G H S => ⟨i + 1, x, kk, sl, G, _, by omega, S⟩
  · rintro σ H ⟨i, z, kk, sl, G, x, hi, S⟩
    refine q_pool (j := 3) (v_add (v_pool (j := 3) (v_var rfl) rfl) v_int) (v_var rfl) S (by omega) rfl fun G H S => ?_
    refine q_when (b_testx (v_le (v_pool (j := 2) (v_var rfl) rfl) v_int)) S (fun _ G H S => ?_) (fun _ G H S => ?_)
    · refine q_setx (v_mod (v_int1 (v_add (v_add (v_mul (v_pool (j := 4) (v_var rfl) rfl) v_int (.inr ⟨by omega, by omega⟩)) (v_mul (v_pool (j := 3) (v_var rfl) rfl) v_int (.inr ⟨by omega, by omega⟩))) v_int)) v_int (by omega)) S fun σ G H S => ?_
      refine q_setx (v_mod (v_int1 (v_add (v_mul (v_var rfl) v_int (.inr ⟨by omega, by omega⟩)) (v_pool (j := 3) (v_var rfl) rfl))) v_int (by omega)) S fun σ G H S => ?_
      refine g_ret (P := Drawn many) (EvX.any (v_mod (v_fdiv (v_var rfl) v_int ⟨by omega, by omega⟩) (v_var rfl) hm0) ⟨_, rfl, Int.emod_nonneg _ (by omega), Int.emod_lt_of_pos _ hm0⟩) S ?_
      exact fun v d G2 H2 st pd rd => q v d G2 H2 (p_of_q hi st) pd rd
    · refine q_setx (v_mod (v_int1 (v_pool (j := 2) (v_var rfl) rfl)) (v_var rfl) hm0) S fun σ G H S => ?_
      refine q_pool (j := 2) (v_fdiv (v_pool (j := 2) (v_var rfl) rfl) (v_var rfl) ⟨hm0, by omega⟩) (v_var rfl) S (by omega) rfl fun G H S => ?_
      refine g_ret (P := Drawn many) (EvX.any (v_var rfl) ⟨_, rfl, Int.emod_nonneg _ (by omega), Int.emod_lt_of_pos _ hm0⟩) S ?_
      exact fun v d G2 H2 st pd rd => q v d G2 H2 (p_of_q hi st) pd rd

end
end K04

set_option maxHeartbeats 4000000
namespace K04
open PySem L2 Ly
local macro_rules | `(tactic| walk_at "side") => `(tactic| first | rfl | decide | omega | (simp only [List.length_cons, List.length_nil, List.length_map, List.length_append, List.length_reverse, List.length_drop, List.length_take]; omega) | exact Or.inl ⟨by omega, by omega⟩ | exact Or.inr ⟨by omega, by omega⟩ | exact ⟨by omega, by omega⟩ | skip)
local macro_rules | `(tactic| walk_at "ev") => `(tactic| first
  | with_reducible exact v_int | with_reducible exact v_bl | with_reducible exact v_str | with_reducible exact v_non
  | with_reducible exact v_var rfl | exact v_var rfl
  | (with_reducible refine v_add ?_ ?_ <;> walk_at "ev")
  | (with_reducible refine v_sub ?_ ?_ <;> walk_at "ev")
  | (with_reducible refine v_mul ?_ ?_ ?_; (focus (walk_at "ev")); (focus (walk_at "ev")); walk_at "side")
  | (with_reducible refine v_mod ?_ ?_ ?_; (focus (walk_at "ev")); (focus (walk_at "ev")); walk_at "side")
  | (with_reducible refine v_fdiv ?_ ?_ ?_; (focus (walk_at "ev")); (focus (walk_at "ev")); walk_at "side")
  | (with_reducible refine v_lt ?_ ?_ <;> walk_at "ev")
  | (with_reducible refine v_le ?_ ?_ <;> walk_at "ev")
  | (with_reducible refine v_gt ?_ ?_ <;> walk_at "ev")
  | (with_reducible refine v_ge ?_ ?_ <;> walk_at "ev")
  | (with_reducible refine v_int1 ?_; walk_at "ev")
  | (with_reducible refine v_revT ?_; walk_at "ev")
  | (with_reducible refine v_lenT ?_; walk_at "ev")
  | (with_reducible refine v_lenL ?_; walk_at "ev")
  | (with_reducible refine v_slT ?_ ?_ ?_ <;> walk_at "ev")
  | (with_reducible refine n_slL ?_ ?_ ?_ <;> walk_at "ev")
  | with_reducible exact o_none | (with_reducible refine o_some ?_; walk_at "ev")
  | (with_reducible refine v_cat ?_ ?_ ?_; (focus (walk_at "ev")); (focus (walk_at "ev")); walk_at "side")
  | (with_reducible refine v_tupx ?_ ?_; (focus (walk_at "ev")); walk_at "side")
  | (with_reducible refine v_lstx ?_ ?_; (focus (walk_at "ev")); walk_at "side")
  | with_reducible exact a_nil | (with_reducible refine a_consx ?_ ?_ <;> walk_at "ev")
  | (with_reducible refine v_tupleLx ?_; walk_at "ev")
  | (with_reducible refine v_tupleTx ?_; walk_at "ev")
  | (with_reducible refine b_testx ?_; walk_at "ev")
  | (with_reducible refine b_Bx ?_; walk_at "ev")
  | (with_reducible refine b_notx ?_; walk_at "ev")
  | (refine b_truT ?_; walk_at "ev")
  | (refine b_truL ?_; walk_at "ev")
  | (with_reducible refine v_isNx ?_; walk_at "ev"))

section
variable {P : Program} {w : World} {K : PySem.W.Frag} {mg : Str → Option Value} {base : Heap} {p c : Addr} {sc : List Int}
def A_strip : Sig := fun ds P => ∃ ns : List Int, ns.length ≤ 20000 ∧ ds = [.tup (dI ns)] ∧ P = (· = .tup (dI (strip ns)))
theorem ok_without (D : Df K mg "without_end_blanks" s_without_end_blanks) (T : Txt mg) : C8.Cal P w K mg base 1 "without_end_blanks" (spOf Wd0 K A_strip) [] := by
  refine cal_of D (fun _ _ _ _ _ _ us hl => match us, hl with | [_], _ => rfl) sc_without_end_blanks (spOf_len (n := 1) fun _ _ ⟨_, _, e, _⟩ => by rw [e]; rfl) fun f cdv A outer s H0 vs Q E hr h => ⟨_, (pss_cons (ps_set (i := 1) sc_without_end_blanks.nd rfl (by first | exact Or.inl rfl | exact Or.inr rfl) (pe_callB (r := Ly.rLen K) call_len_seq (by rfl) T.n_len PySem.boot_len (pa_cons (pv 0) pa_nil)))
      (pss_cons (ps_while PassesOwn.never (PW.pt (pw_and (pt_cmpR op_gt (pv 1) pe_int (nomark _)) (pw_and1 (pt_cmpR op_eq (pe_ix (r := rIxT K) ix_tup (pv 0) (pe_op op_sub (pv 1) pe_int) (fun _ _ => rfl)) (C8.pe_gc (v := .int 0) rfl T.m_BLANK) (nomark _)))))
        (pss_one (ps_aug (i := 1) sc_without_end_blanks.nd rfl (by first | exact Or.inl rfl | exact Or.inr rfl) pe_int ip_sub)))
      (pss_one (ps_ret (pe_slice (r := rSlA K) sl_tupA (pv 0) po_none (po_some (pv 1))))))), ?_⟩
  obtain ⟨G0, ds, P, k, r, ⟨ns, hl, rfl, rfl⟩, q⟩ := h
  have S := S4.start (N := N_without_end_blanks) k r
  refine q_setx (d := .int (ns.length : Int)) (EvX.to (v_lenT (v_var rfl)) (by rw [List.length_map])) S fun σ G H S => ?_
  refine q_whilex ns.length (fun m Γ O => O = [] ∧ Γ = [some (.tup (dI ns)), some (.int (m : Int))] ∧ m ≤ ns.length ∧ strip (ns.take m) = strip ns) S ⟨rfl, rfl, Nat.le_refl _, by rw [List.take_length]⟩ ?_
  rintro m Γ O ⟨rfl, rfl, hm, hs⟩
  have fin : ∀ σ' G' H', strip (ns.take m) = ns.take m → S4 Wd0 K G0 G0 H0 [some (.tup (dI ns)), some (.int (m : Int))] [] σ' G' H' → tRet (tSl (rSlA K) (tVar 0) tNoPart (tPart (tVar 1))) { nx := fun _ H' => Q .non H', rt := Q } σ' H' := fun σ' G' H' e S => by
    refine g_ret (P := (· = .tup (dI (strip ns)))) (EvX.to (v_slT (v_var rfl) o_none (o_some (v_var rfl))) ?_) S q
    rw [cutD_to, ← hs, e]
    exact congrArg Dat.tup (List.map_take ..).symm
  cases m with
  | zero =>
    refine ⟨false, ?_, (fun e => nomatch e), fun _ σ' G' H' S => fin σ' G' H' rfl S⟩
    refine EvBX.to (b_andx (a := false) (b := false) (b_testx (EvX.to (v_gt (v_var rfl) v_int) rfl)) (fun e => nomatch e)) rfl
  | succ m =>
    have hx : ns[m]? = some ns[m] := List.getElem?_eq_getElem (by omega)
    refine ⟨decide (ns[m] = 0), ?_, fun e σ' G' H' S => ?_, fun e σ' G' H' S => ?_⟩
    · refine EvBX.to (b_andx (a := true) (b := decide (ns[m] = 0)) (b_testx (EvX.to (v_gt (v_var rfl) v_int) ?_)) (fun _ => b_testx (v_eqI (v_ixT (j := m) (v_var rfl) (v_sub (v_var rfl) v_int) (by omega) (by rw [List.getElem?_map, hx]; rfl)) (v_cn fun _ => .int _)))) rfl
      exact congrArg Dat.bl (decide_eq_true (by omega))
    · refine g_aug (a := ((m + 1 : Nat) : Int)) (b := 1) rfl v_int S fun σ G H S => ⟨m, Nat.lt_succ_self m, _, _, _, ⟨rfl, ?_, by omega, ?_⟩, S⟩
      · have e2 : ((m + 1 : Nat) : Int) - 1 = (m : Int) := by omega
        rw [e2]
        rfl
      · rw [← hs]
        have e3 := of_decide_eq_true e
        rw [e3] at hx
        exact (strip_zero hx).symm
    · refine fin σ' G' H' ?_ S
      exact strip_done hx (of_decide_eq_false e)

def A_start : Sig := fun ds P => ∃ ns : List Int, ns.length ≤ 20000 ∧ ds = [.tup (dI ns)] ∧ P = (· = .tup [.int 0, .tup [], .int ((strip ns).headD 0), .tup (dI (strip ns).tail)])
theorem ok_start (D : Df K mg "start" s_start) (T : Txt mg) (c_without_end_blanks : C8.Cal P w K mg base 1 "without_end_blanks" (spOf Wd0 K A_strip) []) : C8.Cal P w K mg base 2 "start" (spOf Wd0 K A_start) [] := by
  refine cal_of D (fun _ _ _ _ _ _ us hl => match us, hl with | [_], _ => rfl) sc_start (spOf_len (n := 1) fun _ _ ⟨_, _, e, _⟩ => by rw [e]; rfl) fun f cdv A outer s H0 vs Q E hr h => ⟨_, (pss_cons (ps_set (i := 1) sc_start.nd rfl (by first | exact Or.inl rfl | exact Or.inr rfl) (C8.pe_c c_without_end_blanks hr (by decide) rfl (pa_cons (pv 0) pa_nil)))
      (pss_cons (ps_if (pt_not (pt_truth (pv 1) (fun _ => rfl))) (pss_one (ps_ret (pe_tup (pa_cons pe_int (pa_cons (pe_tup pa_nil) (pa_cons (C8.pe_gc (v := .int 0) rfl T.m_BLANK) (pa_cons (pe_tup pa_nil) pa_nil))))))) pss_nil)
      (pss_one (ps_ret (pe_tup (pa_cons pe_int (pa_cons (pe_tup pa_nil) (pa_cons (pe_ix (r := rIxT K) ix_tup (pv 1) pe_int (fun _ _ => rfl)) (pa_cons (pe_slice (r := rSlA K) sl_tupA (pv 1) (po_some pe_int) po_none) pa_nil))))))))), ?_⟩
  obtain ⟨G0, ds, P, k, r, ⟨ns, hl, rfl, rfl⟩, q⟩ := h
  have S := S4.start (N := N_start) k r
  refine q_setx (d := .tup (dI (strip ns))) (v_call0x (a_consx (v_var rfl) a_nil) ⟨ns, hl, rfl, rfl⟩) S fun σ G H S => ?_
  cases e : strip ns with
  | nil =>
    rw [e] at S q
    refine q_when (b_notx (b_truT (v_var rfl))) S (fun _ G H S => ?_) (fun e => nomatch e)
    exact g_ret (EvX.to (v_tupx (a_consx v_int (a_consx (v_tupx a_nil (by simp)) (a_consx (v_cn fun _ => .int _) (a_consx (v_tupx a_nil (by simp)) a_nil)))) (by simp)) rfl) S q
  | cons x xr =>
    rw [e] at S q
    refine q_when (b_notx (b_truT (v_var rfl))) S (fun e => nomatch e) (fun _ G H S => ?_)
    refine g_ret (EvX.to (v_tupx (a_consx v_int (a_consx (v_tupx a_nil (by simp)) (a_consx (v_ix0 (d := .int x) (v_var rfl) rfl) (a_consx (v_slT (v_var rfl) (o_some v_int) o_none) a_nil)))) (by simp)) ?_) S q
    rw [show (1 : Int) = ((1 : Nat) : Int) from rfl, cutD_from]
    rfl
def content (l : List Int) (x : Int) (r : List Int) : List Int := (strip (strip (l.reverse ++ [x] ++ r)).reverse).reverse
def A_content : Sig := fun ds P => ∃ (st x : Int) (l r : List Int), l.length ≤ 9000 ∧ r.length ≤ 9000 ∧ ds = [.tup [.int st, .tup (dI l), .int x, .tup (dI r)]] ∧ P = (· = .tup (dI (content l x r)))
theorem ok_content (D : Df K mg "content" s_content) (T : Txt mg) (c_without_end_blanks : C8.Cal P w K mg base 1 "without_end_blanks" (spOf Wd0 K A_strip) []) : C8.Cal P w K mg base 2 "content" (spOf Wd0 K A_content) [] := by
  refine cal_of D (fun _ _ _ _ _ _ us hl => match us, hl with | [_], _ => rfl) sc_content (spOf_len (n := 1) fun _ _ ⟨_, _, _, _, _, _, e, _⟩ => by rw [e]; rfl) fun f cdv A outer s H0 vs Q E hr h => ⟨_, (pss_cons (ps_asg (pv 0) (pg_tup rfl (pgs_cons (pg_name (i := 1) sc_content.nd rfl (by first | exact Or.inl rfl | exact Or.inr rfl)) (pgs_cons (pg_name (i := 2) sc_content.nd rfl (by first | exact Or.inl rfl | exact Or.inr rfl)) (pgs_cons (pg_name (i := 3) sc_content.nd rfl (by first | exact Or.inl rfl | exact Or.inr rfl)) (pgs_cons (pg_name (i := 4) sc_content.nd rfl (by first | exact Or.inl rfl | exact Or.inr rfl)) pgs_nil))))))
      (pss_cons (ps_set (i := 5) sc_content.nd rfl (by first | exact Or.inl rfl | exact Or.inr rfl) (pe_revT (C8.pe_c c_without_end_blanks hr (by decide) rfl (pa_cons (pe_op (r := rCatA K) op_catA (pe_op (r := rCatA K) op_catA (pe_revT (pv 2)) (pe_tup (pa_cons (pv 3) pa_nil))) (pv 4)) pa_nil))))
      (pss_one (ps_ret (pe_revT (C8.pe_c c_without_end_blanks hr (by decide) rfl (pa_cons (pv 5) pa_nil))))))), ?_⟩
  obtain ⟨G0, ds, P, k, r, ⟨st, x, l, rr, hl, hr2, rfl, rfl⟩, q⟩ := h
  have S := S4.start (N := N_content) k r
  have e1 : (dI l).reverse ++ [Dat.int x] ++ dI rr = dI (l.reverse ++ [x] ++ rr) := by simp
  refine q_tup (js := [1, 2, 3, 4]) (v_var rfl) rfl rfl S fun σ G H S => ?_
  have hz := strip_len (l.reverse ++ [x] ++ rr)
  have hz2 : (l.reverse ++ [x] ++ rr).length ≤ 18001 := by simp; omega
  refine q_setx (d := .tup (dI (strip (l.reverse ++ [x] ++ rr)).reverse)) (EvX.to (v_revT (v_call0x (a_consx (EvX.to (v_cat (v_cat (v_revT (v_var rfl)) (v_tupx (a_consx (v_var rfl) a_nil) (by simp)) (by simp; omega)) (v_var rfl) (by simp; omega)) (congrArg Dat.tup e1)) a_nil) ⟨l.reverse ++ [x] ++ rr, by omega, rfl, rfl⟩)) (congrArg Dat.tup (List.map_reverse ..).symm)) S fun σ G H S => ?_
  refine g_ret (EvX.to (v_revT (v_call0x (a_consx (v_var rfl) a_nil) ⟨_, by rw [List.length_reverse]; omega, rfl, rfl⟩)) (congrArg Dat.tup (List.map_reverse ..).symm)) S q
def A_num : Sig := fun ds P => ∃ (b : Int) (ns : List Int), -100000 ≤ b ∧ b ≤ 100000 ∧ ds = [.tup (dI ns), .int b] ∧ P = (· = .int (num b ns))
theorem ok_number_of (D : Df K mg "number_of" s_number_of) (T : Txt mg) : C8.Cal P w K mg base 1 "number_of" (spOf Wd0 K A_num) [] := by
  refine cal_of D (fun _ _ _ _ _ _ us hl => match us, hl with | [_, _], _ => rfl) sc_number_of (spOf_len (n := 2) fun _ _ ⟨_, _, _, _, e, _⟩ => by rw [e]; rfl) fun f cdv A outer s H0 vs Q E hr h => ⟨_, (pss_cons (ps_set (i := 2) sc_number_of.nd rfl (by first | exact Or.inl rfl | exact Or.inr rfl) pe_int)
      (pss_cons (ps_for PassesOwn.never rfl (RT.pi_revA rfl T.n_reversed (pv 0)) (pg_name (i := 3) sc_number_of.nd rfl (by first | exact Or.inl rfl | exact Or.inr rfl))
        (pss_one (ps_set (i := 2) sc_number_of.nd rfl (by first | exact Or.inl rfl | exact Or.inr rfl) (pe_op op_add (pe_op op_mul (pv 2) (pv 1)) (pv 3)))))
      (pss_one (ps_ret (pv 2))))), ?_⟩
  obtain ⟨G0, ds, P, k, r, ⟨b, ns, hb1, hb2, rfl, rfl⟩, q⟩ := h
  have S := S4.start (N := N_number_of) k r
  refine q_setx v_int S fun σ G H S => ?_
  refine q_forRT (v_var rfl) S (fun i Γ O => O = [] ∧ ∃ z, Γ = [some (.tup (dI ns)), some (.int b), some (.int (num b (ns.drop (ns.length - i)))), z]) ⟨rfl, none, by rw [Nat.sub_zero, List.drop_length]; rfl⟩ ?_ ?_
  · rintro G1 i d Γ O σ G H hi hd ⟨rfl, z, rfl⟩ S
    rw [List.length_map] at hi hd
    rw [List.getElem?_map] at hd
    have hx : ns[ns.length - 1 - i]? = some ns[ns.length - 1 - i] := List.getElem?_eq_getElem (by omega)
    rw [hx] at hd
    cases hd
    refine g_setx (v_add (v_mul (v_var rfl) (v_var rfl) (.inr ⟨by omega, by omega⟩)) (v_var rfl)) S fun σ G H S => ⟨_, _, _, ⟨rfl, some (.int ns[ns.length - 1 - i]), ?_⟩, S⟩
    have e : num b (ns.drop (ns.length - (i + 1))) = num b (ns.drop (ns.length - i)) * b + ns[ns.length - 1 - i] := by
      rw [show ns.length - (i + 1) = ns.length - 1 - i by omega, num_drop hx, show ns.length - 1 - i + 1 = ns.length - i by omega, Int.mul_comm, Int.add_comm]
    rw [e]
    rfl
  · rintro Γ O σ G H ⟨rfl, z, rfl⟩ S
    rw [List.length_map, Nat.sub_self, List.drop_zero] at S
    exact g_ret (v_var rfl) S q
theorem ok_law_number (D : Df K mg "_law_number" s_law_number) (T : Txt mg) : C8.Cal P w K mg base 1 "_law_number" (spOf Wd0 K A_num) [] := by
  refine cal_of D (fun _ _ _ _ _ _ us hl => match us, hl with | [_, _], _ => rfl) sc_law_number (spOf_len (n := 2) fun _ _ ⟨_, _, _, _, e, _⟩ => by rw [e]; rfl) fun f cdv A outer s H0 vs Q E hr h => ⟨_, (pss_cons (ps_set (i := 2) sc_law_number.nd rfl (by first | exact Or.inl rfl | exact Or.inr rfl) pe_int)
      (pss_cons (ps_for PassesOwn.never rfl (pi_tup (pe_revT (pv 0))) (pg_name (i := 3) sc_law_number.nd rfl (by first | exact Or.inl rfl | exact Or.inr rfl))
        (pss_one (ps_set (i := 2) sc_law_number.nd rfl (by first | exact Or.inl rfl | exact Or.inr rfl) (pe_op op_add (pe_op op_mul (pv 2) (pv 1)) (pv 3)))))
      (pss_one (ps_ret (pv 2))))), ?_⟩
  obtain ⟨G0, ds, P, k, r, ⟨b, ns, hb1, hb2, rfl, rfl⟩, q⟩ := h
  have S := S4.start (N := N_law_number) k r
  refine q_setx v_int S fun σ G H S => ?_
  refine q_forT (v_revT (v_var rfl)) S (fun i Γ O => O = [] ∧ ∃ z, Γ = [some (.tup (dI ns)), some (.int b), some (.int (num b (ns.drop (ns.length - i)))), z]) ⟨rfl, none, by rw [Nat.sub_zero, List.drop_length]; rfl⟩ ?_ ?_
  · rintro G1 i d Γ O σ G H hd ⟨rfl, z, rfl⟩ S
    have hi : i < ns.length := by
      have := (List.getElem?_eq_some_iff.mp hd).1
      simpa using this
    rw [List.getElem?_reverse (by simpa using hi), List.length_map, List.getElem?_map] at hd
    have hx : ns[ns.length - 1 - i]? = some ns[ns.length - 1 - i] := List.getElem?_eq_getElem (by omega)
    rw [hx] at hd
    cases hd
    refine g_setx (v_add (v_mul (v_var rfl) (v_var rfl) (.inr ⟨by omega, by omega⟩)) (v_var rfl)) S fun σ G H S => ⟨_, _, _, ⟨rfl, some (.int ns[ns.length - 1 - i]), ?_⟩, S⟩
    have e : num b (ns.drop (ns.length - (i + 1))) = num b (ns.drop (ns.length - i)) * b + ns[ns.length - 1 - i] := by
      rw [show ns.length - (i + 1) = ns.length - 1 - i by omega, num_drop hx, show ns.length - 1 - i + 1 = ns.length - i by omega, Int.mul_comm, Int.add_comm]
    rw [e]
    rfl
  · rintro Γ O σ G H ⟨rfl, z, rfl⟩ S
    rw [List.length_reverse, List.length_map, Nat.sub_self, List.drop_zero] at S
    exact g_ret (v_var rfl) S q
def A_lstripL : Sig := fun ds P => ∃ ns : List Int, ns.length ≤ 20000 ∧ ds = [.lst (dI ns)] ∧ P = (· = .tup (dI (strip ns)))
def tst (ns : List Int) : Nat → Bool
  | 0 => false
  | k + 1 => decide (ns[k]? = some 0)
theorem strip_go {ns : List Int} {m i : Nat} (hm : m ≤ ns.length) (hs : strip (ns.take m) = strip ns) (hd : strip (ns.take m) = ns.take m ∨ m + i ≤ ns.length) (hi : i < ns.length) :
    ∃ b, (b = (decide (0 < (m : Int)) && tst ns m)) ∧ (b = true → ∃ k, m = k + 1 ∧ k ≤ ns.length ∧ strip (ns.take k) = strip ns ∧ (strip (ns.take k) = ns.take k ∨ k + (i + 1) ≤ ns.length)) ∧ (b = false → strip (ns.take m) = ns.take m) := by
  cases m with
  | zero => exact ⟨false, rfl, (fun e => nomatch e), fun _ => rfl⟩
  | succ k =>
    have hx : ns[k]? = some ns[k] := List.getElem?_eq_getElem (by omega)
    refine ⟨decide (ns[k]? = some 0), ?_, fun e => ?_, fun e => ?_⟩
    · have e1 : decide (0 < ((k + 1 : Nat) : Int)) = true := decide_eq_true (by omega)
      show _ = (decide (0 < ((k + 1 : Nat) : Int)) && decide (ns[k]? = some 0))
      rw [e1]
      rfl
    · have h0 := of_decide_eq_true e
      refine ⟨k, rfl, by omega, ?_, ?_⟩
      · rw [← hs]
        exact (strip_zero h0).symm
      · rcases hd with hd | hd
        · have e2 := strip_len (ns.take k)
          rw [strip_zero h0] at hd
          have e3 := congrArg List.length hd
          rw [List.length_take] at e3 e2
          omega
        · right
          omega
    · have h0 := of_decide_eq_false e
      refine strip_done hx fun z => h0 ?_
      rw [hx, z]
theorem ok_stripL (D : Df K mg "_law_strip" s_law_strip) (T : Txt mg) : C8.Cal P w K mg base 1 "_law_strip" (spOf Wd0 K A_lstripL) [] := by
  refine cal_of D (fun _ _ _ _ _ _ us hl => match us, hl with | [_], _ => rfl) sc_law_strip (spOf_len (n := 1) fun _ _ ⟨_, _, e, _⟩ => by rw [e]; rfl) fun f cdv A outer s H0 vs Q E hr h => ⟨_, (pss_cons (ps_set (i := 1) sc_law_strip.nd rfl (by first | exact Or.inl rfl | exact Or.inr rfl) (pe_callB (r := Ly.rLen K) call_len_seq (by rfl) T.n_len PySem.boot_len (pa_cons (pv 0) pa_nil)))
      (pss_cons (ps_for PassesOwn.never rfl (pi_range1 rfl T.n_range (pa_cons (pe_callB (r := Ly.rLen K) call_len_seq (by rfl) T.n_len PySem.boot_len (pa_cons (pv 0) pa_nil)) pa_nil)) (pg_name (i := 2) sc_law_strip.nd rfl (by first | exact Or.inl rfl | exact Or.inr rfl))
        (pss_one (ps_if (PW.pt (pw_and (pt_cmpR op_gt (pv 1) pe_int (nomark _)) (pw_and1 (pt_cmpR op_eq (pe_ix (r := rIxL K) ix_list (pv 0) (pe_op op_sub (pv 1) pe_int) (fun _ _ => rfl)) pe_int (nomark _))))) (pss_one (ps_set (i := 1) sc_law_strip.nd rfl (by first | exact Or.inl rfl | exact Or.inr rfl) (pe_op op_sub (pv 1) pe_int))) pss_nil)))
      (pss_one (ps_ret (pe_tupleOf rfl T.n_tuple (pe_slice (r := rSlL K) sl_list (pv 0) po_none (po_some (pv 1)))))))), ?_⟩
  obtain ⟨G0, ds, P, k, r, ⟨ns, hl, rfl, rfl⟩, q⟩ := h
  have S := S4.start (N := N_law_strip) k r
  refine q_setx (d := .int (ns.length : Int)) (EvX.to (v_lenL (v_var rfl)) (by rw [List.length_map])) S fun σ G H S => ?_
  refine q_for1 (n := (ns.length : Int)) (EvA.imp (a_consx (v_lenL (v_var rfl)) a_nil) fun ds e => by rw [e, List.length_map]) (by omega) S (fun i Γ O => O = [] ∧ ∃ z, ∃ m : Nat, Γ = [some (.lst (dI ns)), some (.int (m : Int)), z] ∧ m ≤ ns.length ∧ strip (ns.take m) = strip ns ∧ (strip (ns.take m) = ns.take m ∨ m + i ≤ ns.length)) ⟨rfl, none, ns.length, rfl, Nat.le_refl _, by rw [List.take_length], .inr (Nat.le_refl _)⟩ ?_ ?_ (by omega)
  · rintro i Γ O σ G H hi ⟨rfl, z, m, rfl, hm, hs, hd⟩ S
    have hi2 : i < ns.length := by omega
    obtain ⟨b, hb, h1, h2⟩ := strip_go hm hs hd hi2
    refine g_if (P := (· = b)) ?_ S (fun e G H S => ?_) (fun e G H S => ?_)
    · rw [hb]
      refine b_andx (b_testx (v_gt (v_var rfl) v_int)) fun e => ?_
      cases m with
      | zero => exact absurd (of_decide_eq_true e) (by omega)
      | succ k =>
        have hx : ns[k]? = some ns[k] := List.getElem?_eq_getElem (by omega)
        refine b_testx (EvX.to (v_eqI (v_ixL (j := k) (v_var rfl) (v_sub (v_var rfl) v_int) (by omega) (by rw [List.getElem?_map, hx]; rfl)) v_int) ?_)
        show Dat.bl (decide (ns[k] = 0)) = Dat.bl (decide (ns[k]? = some 0))
        rw [hx]
        simp
    · obtain ⟨k, rfl, q1, q2, q3⟩ := h1 e.symm
      refine g_setx (d := .int (k : Int)) (EvX.to (v_sub (v_var rfl) v_int) (congrArg Dat.int (by omega))) S fun σ G H S => ⟨_, _, _, ⟨rfl, some (.int (i : Int)), k, rfl, q1, q2, q3⟩, S⟩
    · exact ⟨_, _, _, ⟨rfl, some (.int (i : Int)), m, rfl, hm, hs, .inl (h2 e.symm)⟩, S⟩
  · rintro Γ O σ G H ⟨rfl, z, m, rfl, hm, hs, hd⟩ S
    have hf : strip (ns.take m) = ns.take m := by
      rcases hd with hd | hd
      · exact hd
      · have : m = 0 := by omega
        subst this
        rfl
    refine g_ret (P := (· = .tup (dI (strip ns)))) (EvX.to (v_tupleLx (n_slL (v_var rfl) o_none (o_some (v_var rfl)))) ?_) S q
    rw [cutD_to, ← hs, hf]
    exact congrArg Dat.tup (List.map_take ..).symm
theorem ok_stripT (D : Df K mg "_law_strip" s_law_strip) (T : Txt mg) : C8.Cal P w K mg base 1 "_law_strip" (spOf Wd0 K A_strip) [] := by
  refine cal_of D (fun _ _ _ _ _ _ us hl => match us, hl with | [_], _ => rfl) sc_law_strip (spOf_len (n := 1) fun _ _ ⟨_, _, e, _⟩ => by rw [e]; rfl) fun f cdv A outer s H0 vs Q E hr h => ⟨_, (pss_cons (ps_set (i := 1) sc_law_strip.nd rfl (by first | exact Or.inl rfl | exact Or.inr rfl) (pe_callB (r := Ly.rLen K) call_len_seq (by rfl) T.n_len PySem.boot_len (pa_cons (pv 0) pa_nil)))
      (pss_cons (ps_for PassesOwn.never rfl (pi_range1 rfl T.n_range (pa_cons (pe_callB (r := Ly.rLen K) call_len_seq (by rfl) T.n_len PySem.boot_len (pa_cons (pv 0) pa_nil)) pa_nil)) (pg_name (i := 2) sc_law_strip.nd rfl (by first | exact Or.inl rfl | exact Or.inr rfl))
        (pss_one (ps_if (PW.pt (pw_and (pt_cmpR op_gt (pv 1) pe_int (nomark _)) (pw_and1 (pt_cmpR op_eq (pe_ix (r := rIxT K) ix_tup (pv 0) (pe_op op_sub (pv 1) pe_int) (fun _ _ => rfl)) pe_int (nomark _))))) (pss_one (ps_set (i := 1) sc_law_strip.nd rfl (by first | exact Or.inl rfl | exact Or.inr rfl) (pe_op op_sub (pv 1) pe_int))) pss_nil)))
      (pss_one (ps_ret (pe_tupleOf rfl T.n_tuple (pe_slice (r := rSlA K) sl_tupA (pv 0) po_none (po_some (pv 1)))))))), ?_⟩
  obtain ⟨G0, ds, P, k, r, ⟨ns, hl, rfl, rfl⟩, q⟩ := h
  have S := S4.start (N := N_law_strip) k r
  refine q_setx (d := .int (ns.length : Int)) (EvX.to (v_lenT (v_var rfl)) (by rw [List.length_map])) S fun σ G H S => ?_
  refine q_for1 (n := (ns.length : Int)) (EvA.imp (a_consx (v_lenT (v_var rfl)) a_nil) fun ds e => by rw [e, List.length_map]) (by omega) S (fun i Γ O => O = [] ∧ ∃ z, ∃ m : Nat, Γ = [some (.tup (dI ns)), some (.int (m : Int)), z] ∧ m ≤ ns.length ∧ strip (ns.take m) = strip ns ∧ (strip (ns.take m) = ns.take m ∨ m + i ≤ ns.length)) ⟨rfl, none, ns.length, rfl, Nat.le_refl _, by rw [List.take_length], .inr (Nat.le_refl _)⟩ ?_ ?_ (by omega)
  · rintro i Γ O σ G H hi ⟨rfl, z, m, rfl, hm, hs, hd⟩ S
    have hi2 : i < ns.length := by omega
    obtain ⟨b, hb, h1, h2⟩ := strip_go hm hs hd hi2
    refine g_if (P := (· = b)) ?_ S (fun e G H S => ?_) (fun e G H S => ?_)
    · rw [hb]
      refine b_andx (b_testx (v_gt (v_var rfl) v_int)) fun e => ?_
      cases m with
      | zero => exact absurd (of_decide_eq_true e) (by omega)
      | succ k =>
        have hx : ns[k]? = some ns[k] := List.getElem?_eq_getElem (by omega)
        refine b_testx (EvX.to (v_eqI (v_ixT (j := k) (v_var rfl) (v_sub (v_var rfl) v_int) (by omega) (by rw [List.getElem?_map, hx]; rfl)) v_int) ?_)
        show Dat.bl (decide (ns[k] = 0)) = Dat.bl (decide (ns[k]? = some 0))
        rw [hx]
        simp
    · obtain ⟨k, rfl, q1, q2, q3⟩ := h1 e.symm
      refine g_setx (d := .int (k : Int)) (EvX.to (v_sub (v_var rfl) v_int) (congrArg Dat.int (by omega))) S fun σ G H S => ⟨_, _, _, ⟨rfl, some (.int (i : Int)), k, rfl, q1, q2, q3⟩, S⟩
    · exact ⟨_, _, _, ⟨rfl, some (.int (i : Int)), m, rfl, hm, hs, .inl (h2 e.symm)⟩, S⟩
  · rintro Γ O σ G H ⟨rfl, z, m, rfl, hm, hs, hd⟩ S
    have hf : strip (ns.take m) = ns.take m := by
      rcases hd with hd | hd
      · exact hd
      · have : m = 0 := by omega
        subst this
        rfl
    refine g_ret (P := (· = .tup (dI (strip ns)))) (EvX.to (v_tupleTx (v_slT (v_var rfl) o_none (o_some (v_var rfl)))) ?_) S q
    rw [cutD_to, ← hs, hf]
    exact congrArg Dat.tup (List.map_take ..).symm
def A_symbols : Sig := fun ds P => ∃ n b : Int, 0 ≤ n ∧ n < 2 ^ 200 ∧ 2 ≤ b ∧ b < 1000000000 ∧ ds = [.int n, .int b] ∧ P = fun d => ∃ ns : List Int, d = .tup (dI ns) ∧ InB b ns ∧ Ends ns ∧ num b ns = n ∧ ns.length ≤ 201
theorem ok_symbols_of (D : Df K mg "symbols_of" s_symbols_of) (T : Txt mg) : C8.Cal P w K mg base 1 "symbols_of" (spOf Wd0 K A_symbols) [] := by
  refine cal_of D (fun _ _ _ _ _ _ us hl => match us, hl with | [_, _], _ => rfl) sc_symbols_of (spOf_len (n := 2) fun _ _ ⟨_, _, _, _, _, _, e, _⟩ => by rw [e]; rfl) fun f cdv A outer s H0 vs Q E hr h => ⟨_, (pss_cons (ps_set (i := 2) sc_symbols_of.nd rfl (by first | exact Or.inl rfl | exact Or.inr rfl) (pe_lst pa_nil))
      (pss_cons (ps_while PassesOwn.never (pt_cmpR op_gt (pv 0) pe_int (nomark _))
        (pss_cons (ps_asg (pe_callB call_divmodW (by rfl) T.n_divmod (by decide +kernel) (pa_cons (pv 0) (pa_cons (pv 1) pa_nil))) (pg_tup rfl (pgs_cons (pg_name (i := 0) sc_symbols_of.nd rfl (by first | exact Or.inl rfl | exact Or.inr rfl)) (pgs_cons (pg_name (i := 3) sc_symbols_of.nd rfl (by first | exact Or.inl rfl | exact Or.inr rfl)) pgs_nil))))
      (pss_one (ps_expr (pe_bm PySem.F.plainAttrs_list PySem.F.slot_list_append PySem.F.type_list_append mt_append (pv 2) (pa_cons (pv 3) pa_nil))))))
      (pss_one (ps_ret (pe_tupleOf rfl T.n_tuple (pv 2)))))), ?_⟩
  obtain ⟨G0, ds, P, k, r, ⟨n, b, hn0, hn1, hb, hb2, rfl, rfl⟩, q⟩ := h
  have S := S4.start (N := N_symbols_of) k r
  refine q_setN (P := (· = [])) (n_lst a_nil fun ds e => by rw [e]; simp) S fun l ds σ G H e S => ?_
  subst e
  refine q_whilex n.toNat (fun m Γ O => ∃ (ns : List Int) (z : Option Dat), O = [(l, dI ns)] ∧ Γ = [some (.int (m : Int)), some (.int b), some (.adr l), z] ∧ InB b ns ∧ num b ns + b ^ ns.length * (m : Int) = n ∧ (m = 0 → Ends ns) ∧ 2 ^ ns.length * m < 2 ^ 200 ∧ ns.length ≤ 201) S ⟨[], none, rfl, by rw [Int.toNat_of_nonneg hn0]; rfl, (fun x h => nomatch h), by simp [num]; omega, fun _ => ends_nil, ?_, by simp⟩ ?_
  · have h1 : ((2 ^ 200 : Nat) : Int) = 2 ^ 200 := by norm_cast
    simp
    omega
  rintro m Γ O ⟨ns, z, rfl, rfl, hi, he, hz, hsz, hlen⟩
  refine ⟨decide (0 < (m : Int)), b_testx (v_gt (v_var rfl) v_int), fun e σ G H S => ?_, fun e σ G H S => ?_⟩
  · have hm : 0 < m := by have := of_decide_eq_true e; omega
    have hbp : Builtin.divisionGoesByPylong (m : Int) b = false := PyProof.noPylong_small (by omega)
    refine q_tup (js := [0, 3]) (ds := [.int ((m : Int) / b), .int ((m : Int) % b)]) (v_divmod (v_var rfl) (v_var rfl) ⟨by omega, hbp⟩) rfl rfl S fun σ G H S => ?_
    have hl2 : ns.length < 200 := by
      rcases Nat.lt_or_ge ns.length 200 with h | h
      · exact h
      · have h2 : 2 ^ 200 ≤ 2 ^ ns.length := Nat.pow_le_pow_right (by decide) h
        have h3 : 2 ^ ns.length * 1 ≤ 2 ^ ns.length * m := Nat.mul_le_mul_left _ hm
        omega
    refine g_app (v_var rfl) (v_var (d := .int ((m : Int) % b)) rfl) S (by rw [List.length_map]; omega) fun d G H e S => ?_
    subst e
    have hdm := Int.emod_nonneg (m : Int) (show b ≠ 0 by omega)
    have hdl := Int.emod_lt_of_pos (m : Int) (show 0 < b by omega)
    have hdv : 0 ≤ (m : Int) / b := Int.ediv_nonneg (by omega) (by omega)
    have hlt : (m : Int) / b < m := Int.ediv_lt_self_of_pos_of_ne_one (by omega) (by omega)
    have hq := Int.mul_ediv_add_emod (m : Int) b
    have e5 : (((m : Int) / b).toNat : Int) = (m : Int) / b := Int.toNat_of_nonneg hdv
    refine ⟨((m : Int) / b).toNat, by omega, _, _, _, ⟨ns ++ [(m : Int) % b], some (.int ((m : Int) % b)), by simp, by rw [e5]; rfl, ?_, ?_, ?_, ?_, ?_⟩, S⟩
    · intro x hx
      rcases List.mem_append.mp hx with hx | hx
      · exact hi x hx
      · rw [List.mem_singleton.mp hx]
        exact ⟨hdm, hdl⟩
    · rw [num_append, List.length_append, List.length_singleton, Int.pow_succ, e5, Int.add_assoc, Int.mul_assoc, ← Int.mul_add, Int.add_comm ((m : Int) % b), hq]
      exact he
    · intro h0
      refine ends_last fun h1 => ?_
      have h2 : (m : Int) / b = 0 := by omega
      rw [h2, h1] at hq
      simp at hq
      omega
    · rw [List.length_append, List.length_singleton, Nat.pow_succ, Nat.mul_assoc]
      refine Nat.lt_of_le_of_lt (Nat.mul_le_mul_left _ ?_) hsz
      have h3 : 2 * ((m : Int) / b) ≤ b * ((m : Int) / b) := Int.mul_le_mul_of_nonneg_right (by omega) hdv
      omega
    · rw [List.length_append, List.length_singleton]
      omega
  · have hm : m = 0 := by have := of_decide_eq_false e; omega
    obtain ⟨G, S⟩ := S4.keep (i := 2) rfl S
    subst hm
    refine g_ret (EvX.any (v_tupleLx (v_var (d := .lst (dI ns)) (i := 2) rfl)) ⟨ns, rfl, hi, hz rfl, ?_, hlen⟩) S q
    rw [← he]
    simp

end
end K04

set_option maxHeartbeats 4000000
namespace K04
open PySem L2 Ly
section
variable {P : Program} {w : World} {K : PySem.W.Frag} {mg : Str → Option Value} {base : Heap}
theorem strip_cons (x : Int) (r : List Int) : strip (x :: r) = if strip r = [] ∧ x = 0 then [] else x :: strip r := by
  by_cases hr : strip r = []
  · have hz : ∃ k, r = List.replicate k 0 := by
      obtain ⟨k, hk⟩ := strip_spec r
      rw [hr] at hk
      exact ⟨k, hk⟩
    obtain ⟨k, rfl⟩ := hz
    by_cases hx : x = 0
    · subst hx
      rw [if_pos ⟨hr, rfl⟩]
      unfold strip
      simp
    · rw [if_neg (fun q => hx q.2), hr]
      unfold strip
      simp [hx]
  · rw [if_neg (fun q => hr q.1)]
    obtain ⟨k, hk⟩ := strip_spec r
    have e1 : strip (x :: r) = strip (x :: strip r) := by
      have h2 : ∀ (l : List Int) (k : Nat), strip (l ++ List.replicate k 0) = strip l := fun l k => by
        unfold strip
        simp [List.dropWhile_append]
      rw [hk, show x :: (strip r ++ List.replicate k 0) = (x :: strip r) ++ List.replicate k 0 from rfl, h2, ← hk]
    rw [e1]
    cases (strip r).eq_nil_or_concat with
    | inl e => exact absurd e hr
    | inr e =>
      obtain ⟨l, y, e⟩ := e
      rw [List.concat_eq_append] at e
      have he := strip_ends r
      rw [e] at he ⊢
      exact ends_last (ns := x :: l) (ends_last_ne he)
def dueOf : List Int → Dat
  | [] => .tup [.int 0, .tup [], .int 0, .tup []]
  | x :: r => .tup [.int 0, .tup [], .int x, .tup (dI (strip r))]
theorem due_start (ns : List Int) : dueOf ns = .tup [.int 0, .tup [], .int ((strip ns).headD 0), .tup (dI (strip ns).tail)] := by
  cases ns with
  | nil => rfl
  | cons x r =>
    rw [strip_cons]
    by_cases h : strip r = [] ∧ x = 0
    · rw [if_pos h]
      show Dat.tup [.int 0, .tup [], .int x, .tup (dI (strip r))] = _
      rw [h.1, h.2]
      rfl
    · rw [if_neg h]
      rfl
theorem pl_due (ns : List Int) (h : ns.length ≤ 1000) : Pl 2 (dueOf ns) := by
  rw [due_start]
  have h1 := strip_len ns
  simp only [Pl, Pls]
  refine ⟨by simp, trivial, ⟨by simp, trivial⟩, trivial, ⟨?_, Pls.ints _⟩, trivial⟩
  rw [List.length_map, List.length_tail]
  omega
theorem num_lt {b : Int} (hb : 1 ≤ b) : ∀ {ns : List Int}, InB b ns → num b ns < b ^ ns.length
  | [], _ => by simp [num]
  | x :: ns, h => by
    have hx := (h x List.mem_cons_self).2
    have ih := num_lt hb (ns := ns) fun y hy => h y (List.mem_cons_of_mem _ hy)
    rw [num, List.length_cons, Int.pow_succ, Int.mul_comm (b ^ ns.length) b]
    have h2 : b * (num b ns + 1) ≤ b * b ^ ns.length := Int.mul_le_mul_of_nonneg_left (by omega) (by omega)
    rw [Int.mul_add] at h2
    omega
theorem pow_le9 {b : Int} (h1 : 1 ≤ b) (h2 : b ≤ 400) (n : Nat) (hn : n ≤ 9) : b ^ n < 2 ^ 200 := by
  have h3 : b ^ n ≤ 400 ^ n := by
    induction n with
    | zero => simp
    | succ n ih =>
      have := ih (by omega)
      rw [Int.pow_succ, Int.pow_succ]
      exact Int.mul_le_mul this h2 (by omega) (by have : (0 : Int) < 400 ^ n := Int.pow_pos (by decide); omega)
  have h4 : (400 : Int) ^ n ≤ 400 ^ 9 := by
    have e9 : (400 : Int) ^ 9 = 400 ^ n * 400 ^ (9 - n) := by
      rw [← Int.pow_add, show n + (9 - n) = 9 by omega]
    rw [e9]
    have h5 : (1 : Int) ≤ 400 ^ (9 - n) := by
      have : (0 : Int) < 400 ^ (9 - n) := Int.pow_pos (by decide)
      omega
    have h6 : (0 : Int) < 400 ^ n := Int.pow_pos (by decide)
    have := Int.mul_le_mul_of_nonneg_left h5 (Int.le_of_lt h6)
    omega
  have h7 : (400 : Int) ^ 9 < 2 ^ 200 := by decide
  omega
theorem great_lt {n : Nat} (h : n ≤ 15) : (10000 : Int) ^ n < 2 ^ 200 := by
  have h4 : (10000 : Int) ^ n ≤ 10000 ^ 15 := by
    have e9 : (10000 : Int) ^ 15 = 10000 ^ n * 10000 ^ (15 - n) := by
      rw [← Int.pow_add, show n + (15 - n) = 15 by omega]
    rw [e9]
    have h5 : (1 : Int) ≤ 10000 ^ (15 - n) := by
      have : (0 : Int) < 10000 ^ (15 - n) := Int.pow_pos (by decide)
      omega
    have h6 : (0 : Int) < 10000 ^ n := Int.pow_pos (by decide)
    have := Int.mul_le_mul_of_nonneg_left h5 (Int.le_of_lt h6)
    omega
  have h7 : (10000 : Int) ^ 15 < 2 ^ 200 := by decide
  omega
abbrev cLike (P : Program) (w : World) (K : PySem.W.Frag) (mg : Str → Option Value) (base : Heap) : Prop := C8.Cal P w K mg base 4 "_law_like" (spOf Wd0 K (A_like 3)) []
theorem b_like {W : Wd} {K : PySem.W.Frag} {Γ : List (Option Dat)} {ta tb : TE} {d : Dat} {E : XK} {n : Nat} (ha : EvX W K ta Γ d) (hb : EvX W K tb Γ d) (h : Pl n d) : EvBX W K (tNot (tB (tCall (spOf Wd0 K (A_like n)) [] E (tCons ta (tCons tb tNil))))) Γ false :=
  b_notx (a := true) (b_Bx (v_call0x (a_consx ha (a_consx hb a_nil)) ⟨d, h, rfl, rfl⟩))
theorem pl_ints {n : Nat} {ns : List Int} (h : ns.length ≤ 30000) : Pl (n + 1) (.tup (dI ns)) := Pl.ints (by omega)
theorem ok_law {f : Addr} {fd : FuncData} (F : Fun K "law" "law" s_law f fd) (T : Txt mg) (c_start : C8.Cal P w K mg base 2 "start" (spOf Wd0 K A_start) []) (c_content : C8.Cal P w K mg base 2 "content" (spOf Wd0 K A_content) []) (c_number_of : C8.Cal P w K mg base 1 "number_of" (spOf Wd0 K A_num) [])
    (c_symbols_of : C8.Cal P w K mg base 1 "symbols_of" (spOf Wd0 K A_symbols) []) (c_law_like : C8.Cal P w K mg base 4 "_law_like" (spOf Wd0 K (A_like 3)) []) (c_law_strip : C8.Cal P w K mg base 1 "_law_strip" (spOf Wd0 K A_lstripL) []) (c_law_stripT : C8.Cal P w K mg base 1 "_law_strip" (spOf Wd0 K A_strip) [])
    (c_law_number : C8.Cal P w K mg base 1 "_law_number" (spOf Wd0 K A_num) []) (c_law_pool : C8.Cal P w K mg base 1 "_law_pool" (spPool K) []) (c_law_draw : C8.Cal P w K mg base 2 "_law_draw" (spDraw K) []) : FnOk P w K mg base CX0 6 f fd ["script"] (spLaw K) := by
  refine F.ok sc_law (fun vs H Q E ⟨_, _, e, _⟩ => by rw [e]; rfl) fun cdv A outer s H0 vs Q E hr h => ⟨_, (pss_cons (ps_set (i := 1) sc_law.nd rfl (by first | exact Or.inl rfl | exact Or.inr rfl) (C8.pe_c c_law_pool hr (by decide) rfl (pa_cons (pv 0) pa_nil)))
      (pss_cons (ps_set (i := 2) sc_law.nd rfl (by first | exact Or.inl rfl | exact Or.inr rfl) (pe_ix (r := rIxL K) ix_list (pe_lst (pa_cons pe_int (pa_cons pe_int (pa_cons pe_int (pa_cons pe_int pa_nil))))) (C8.pe_c c_law_draw hr (by decide) rfl (pa_cons (pv 1) (pa_cons pe_int pa_nil))) (fun _ _ => rfl)))
      (pss_cons (ps_set (i := 3) sc_law.nd rfl (by first | exact Or.inl rfl | exact Or.inr rfl) (pe_tupleOf rfl T.n_tuple (pe_lc (own := [("k", 11)]) (g := gName 11) (tt := tYes) rfl sc_law.nd (pi_range1 rfl T.n_range (pa_cons (C8.pe_c c_law_draw hr (by decide) rfl (pa_cons (pv 1) (pa_cons pe_int pa_nil))) pa_nil)) (blkOk_by (N := N_law) (sc := defScope s_law) (by decide +kernel)) (fun _ _ _ _ _ => pg_name (i := 11) sc_law.nd rfl (Or.inl rfl)) (fun _ _ _ _ _ => pts_nil) (fun _ _ _ _ _ => (pe_ifExp (pt_cmpR op_gt (C8.pe_c c_law_draw hr (by decide) rfl (pa_cons (pv 1) (pa_cons pe_int pa_nil))) pe_int (nomark _)) (C8.pe_c c_law_draw hr (by decide) rfl (pa_cons (pv 1) (pa_cons (pv 2) pa_nil))) pe_int)))))
      (pss_cons (ps_set (i := 4) sc_law.nd rfl (by first | exact Or.inl rfl | exact Or.inr rfl) (pe_tup (pa_cons pe_int (pa_cons (pe_tup pa_nil) (pa_cons pe_int (pa_cons (pe_tup pa_nil) pa_nil))))))
      (Evl.pss_cut (ps_if (pt_cmpR (op_neD hr.units) (pv 3) (pe_tup pa_nil) (nomark _)) (pss_one (ps_set (i := 4) sc_law.nd rfl (by first | exact Or.inl rfl | exact Or.inr rfl) (pe_tup (pa_cons pe_int (pa_cons (pe_tup pa_nil) (pa_cons (pe_ix (r := rIxT K) ix_tup (pv 3) pe_int (fun _ _ => rfl)) (pa_cons (C8.pe_c c_law_stripT hr (by decide) rfl (pa_cons (pe_slice (r := rSlA K) sl_tupA (pv 3) (po_some pe_int) po_none) pa_nil)) pa_nil))))))) pss_nil)
      (pss_cons (ps_if (pt_not (pt_val (C8.pe_c c_law_like hr (by decide) rfl (pa_cons (C8.pe_c c_start hr (by decide) rfl (pa_cons (pv 3) pa_nil)) (pa_cons (pv 4) pa_nil))))) (pss_one (ps_ret pe_bl)) pss_nil)
      (pss_cons (ps_set (i := 5) sc_law.nd rfl (by first | exact Or.inl rfl | exact Or.inr rfl) (C8.pe_c c_law_strip hr (by decide) rfl (pa_cons (pe_lc (own := [("k", 11)]) (g := gName 11) (tt := tYes) rfl sc_law.nd (pi_range1 rfl T.n_range (pa_cons (C8.pe_c c_law_draw hr (by decide) rfl (pa_cons (pv 1) (pa_cons pe_int pa_nil))) pa_nil)) (blkOk_by (N := N_law) (sc := defScope s_law) (by decide +kernel)) (fun _ _ _ _ _ => pg_name (i := 11) sc_law.nd rfl (Or.inl rfl)) (fun _ _ _ _ _ => pts_nil) (fun _ _ _ _ _ => (C8.pe_c c_law_draw hr (by decide) rfl (pa_cons (pv 1) (pa_cons (pv 2) pa_nil))))) pa_nil)))
      (pss_cons (ps_set (i := 6) sc_law.nd rfl (by first | exact Or.inl rfl | exact Or.inr rfl) (C8.pe_c c_law_strip hr (by decide) rfl (pa_cons (pe_lc (own := [("k", 11)]) (g := gName 11) (tt := tYes) rfl sc_law.nd (pi_range1 rfl T.n_range (pa_cons (C8.pe_c c_law_draw hr (by decide) rfl (pa_cons (pv 1) (pa_cons pe_int pa_nil))) pa_nil)) (blkOk_by (N := N_law) (sc := defScope s_law) (by decide +kernel)) (fun _ _ _ _ _ => pg_name (i := 11) sc_law.nd rfl (Or.inl rfl)) (fun _ _ _ _ _ => pts_nil) (fun _ _ _ _ _ => (C8.pe_c c_law_draw hr (by decide) rfl (pa_cons (pv 1) (pa_cons (pv 2) pa_nil))))) pa_nil)))
      (pss_cons (ps_set (i := 7) sc_law.nd rfl (by first | exact Or.inl rfl | exact Or.inr rfl) (pe_ifExp (pt_cmpR op_eq (C8.pe_c c_law_draw hr (by decide) rfl (pa_cons (pv 1) (pa_cons pe_int pa_nil))) pe_int (nomark _)) (C8.pe_c c_law_draw hr (by decide) rfl (pa_cons (pv 1) (pa_cons (pv 2) pa_nil))) pe_int))
      (pss_cons (ps_set (i := 8) sc_law.nd rfl (by first | exact Or.inl rfl | exact Or.inr rfl) (C8.pe_c c_law_stripT hr (by decide) rfl (pa_cons (pe_op (r := rCatA K) op_catA (pe_op (r := rCatA K) op_catA (pe_revT (pv 5)) (pe_tup (pa_cons (pv 7) pa_nil))) (pv 6)) pa_nil)))
      (pss_cons (ps_if (pt_not (pt_val (C8.pe_c c_law_like hr (by decide) rfl (pa_cons (C8.pe_c c_content hr (by decide) rfl (pa_cons (pe_tup (pa_cons (C8.pe_c c_law_draw hr (by decide) rfl (pa_cons (pv 1) (pa_cons pe_int pa_nil))) (pa_cons (pv 5) (pa_cons (pv 7) (pa_cons (pv 6) pa_nil))))) pa_nil)) (pa_cons (pe_revT (C8.pe_c c_law_stripT hr (by decide) rfl (pa_cons (pe_revT (pv 8)) pa_nil))) pa_nil))))) (pss_one (ps_ret pe_bl)) pss_nil)
      (pss_cons (ps_if (pt_not (pt_val (C8.pe_c c_law_like hr (by decide) rfl (pa_cons (C8.pe_c c_content hr (by decide) rfl (pa_cons (C8.pe_c c_start hr (by decide) rfl (pa_cons (pv 3) pa_nil)) pa_nil)) (pa_cons (pe_revT (C8.pe_c c_law_stripT hr (by decide) rfl (pa_cons (pe_revT (C8.pe_c c_law_stripT hr (by decide) rfl (pa_cons (pv 3) pa_nil))) pa_nil))) pa_nil))))) (pss_one (ps_ret pe_bl)) pss_nil)
      (pss_cons (ps_set (i := 9) sc_law.nd rfl (by first | exact Or.inl rfl | exact Or.inr rfl) (C8.pe_c c_law_number hr (by decide) rfl (pa_cons (pv 3) (pa_cons (pv 2) pa_nil))))
      (pss_cons (ps_if (PW.pt (pw_or (pt_not (pt_val (C8.pe_c c_law_like hr (by decide) rfl (pa_cons (C8.pe_c c_number_of hr (by decide) rfl (pa_cons (pv 3) (pa_cons (pv 2) pa_nil))) (pa_cons (pv 9) pa_nil))))) (pw_or1 (pt_not (pt_val (C8.pe_c c_law_like hr (by decide) rfl (pa_cons (C8.pe_c c_symbols_of hr (by decide) rfl (pa_cons (pv 9) (pa_cons (pv 2) pa_nil))) (pa_cons (C8.pe_c c_law_stripT hr (by decide) rfl (pa_cons (pv 3) pa_nil)) pa_nil)))))))) (pss_one (ps_ret pe_bl)) pss_nil)
      (pss_cons (ps_set (i := 10) sc_law.nd rfl (by first | exact Or.inl rfl | exact Or.inr rfl) pe_int)
      (pss_cons (ps_for PassesOwn.never rfl (pi_range1 rfl T.n_range (pa_cons (C8.pe_c c_law_draw hr (by decide) rfl (pa_cons (pv 1) (pa_cons pe_int pa_nil))) pa_nil)) (pg_name (i := 11) sc_law.nd rfl (by first | exact Or.inl rfl | exact Or.inr rfl))
        (pss_one (ps_set (i := 10) sc_law.nd rfl (by first | exact Or.inl rfl | exact Or.inr rfl) (pe_op op_add (pe_op op_mul (pv 10) pe_int) (C8.pe_c c_law_draw hr (by decide) rfl (pa_cons (pv 1) (pa_cons pe_int pa_nil)))))))
      (pss_cons (ps_set (i := 12) sc_law.nd rfl (by first | exact Or.inl rfl | exact Or.inr rfl) (C8.pe_c c_symbols_of hr (by decide) rfl (pa_cons (pv 10) (pa_cons (pv 2) pa_nil))))
      (pss_cons (ps_if (PW.pt (pw_or (pt_cmpR (op_neD hr.units) (pv 12) (C8.pe_c c_law_stripT hr (by decide) rfl (pa_cons (pv 12) pa_nil)) (nomark _)) (pw_or1 (pt_cmpR op_gt (pe_callB (r := Ly.rLen K) call_len_seq (by rfl) T.n_len PySem.boot_len (pa_cons (pe_lc (own := [("one", 13)]) (g := gName 13) rfl sc_law.nd (pi_tup (pv 12)) (blkOk_by (N := N_law) (sc := defScope s_law) (by decide +kernel)) (fun _ _ _ _ _ => pg_name (i := 13) sc_law.nd rfl (Or.inl rfl)) (fun _ _ _ _ _ => pts_one (pt_not (pt_chain op_le op_lt pe_int (pv 13) (pv 2)))) (fun _ _ _ _ _ => (pv 13))) pa_nil)) pe_int (nomark _))))) (pss_one (ps_ret pe_bl)) pss_nil)
      (pss_one (ps_ret (pe_cmpR op_eq (C8.pe_c c_law_number hr (by decide) rfl (pa_cons (pv 12) (pa_cons (pv 2) pa_nil))) (pv 10) (nomark _)))))))))))))))))))))), ?_⟩
  obtain ⟨a, sc, e, hS, hl, q⟩ := h
  have S := law_start (N := N_law) e hS
  refine q_newpool (v_var rfl) hl S fun p c σ G0 H0 S => ?_
  -- base
  refine q_set (P := fun d => ∃ b, d = .int b ∧ 2 ≤ b ∧ b ≤ 400) (Ev.imp (v_pick (v_lstx (a_consx v_int (a_consx v_int (a_consx v_int (a_consx v_int a_nil)))) (by simp)) (v_draw (v_var rfl) v_int (by omega) (by omega)) rfl) fun d hd => ?_) S fun d σ G H hd S => ?_
  · simp only [List.mem_cons, List.not_mem_nil, or_false] at hd
    rcases hd with rfl | rfl | rfl | rfl <;> exact ⟨_, rfl, by omega, by omega⟩
  obtain ⟨b, rfl, hb2, hb4⟩ := hd
  -- word
  refine q_set (P := fun d => ∃ ns, d = .tup (dI ns) ∧ (ns.length : Int) < 10 ∧ InB b ns) (v_tupleL (P := fun _ => True) (EvN.ev (n_lcD (b := b) (m := 10) (v_draw (v_var rfl) v_int (by omega) (by omega)) (by omega) fun i => v_if (b_drawnGt (v_draw (v_var rfl) v_int (by omega) (by omega)) v_int) (fun _ => v_draw (v_var rfl) (v_var rfl) (by omega) (by omega)) (fun _ => EvX.any v_int ⟨0, rfl, by omega, by omega⟩)) fun ds ⟨ns, e, h1, h2⟩ => ⟨ds, rfl, ns, by rw [e], h1, h2⟩)) S fun d σ G H hd S => ?_
  obtain ⟨ns, rfl, hns, hin⟩ := hd
  have hns2 : ns.length ≤ 9 := by omega
  -- due
  refine q_setx (v_tupx (a_consx v_int (a_consx (v_tupx a_nil (by simp)) (a_consx v_int (a_consx (v_tupx a_nil (by simp)) a_nil)))) (by simp)) S fun σ G H S => ?_
  refine q_cut (fun σ H => ∃ G, S4 (WP p c sc) K G0 G0 H0 [some (.lst (dI sc)), some (.adr p), some (.int b), some (.tup (dI ns)), some (dueOf ns), none, none, none, none, none, none, none, none, none] [] σ G H) ?_ ?_
  · refine g_if (P := (· = !ns.isEmpty)) (EvBX.to (b_testx (v_neD (n := 2) (v_var rfl) (v_tupx (ds := dI []) a_nil (by simp)) (pl_ints (by omega)) (pl_ints (by simp)) (by omega))) ?_) S (fun e G H S => ?_) (fun e G H S => ?_)
    · rw [eqv_ints ns []]
      cases ns <;> simp
    · cases ns with
      | nil => cases e
      | cons x r =>
        refine g_setx (d := dueOf (x :: r)) (v_tupx (a_consx v_int (a_consx (v_tupx a_nil (by simp)) (a_consx (v_ix0 (v_var rfl) rfl) (a_consx (v_call0x (a_consx (EvX.to (v_slT (v_var rfl) (o_some v_int) o_none) (congrArg Dat.tup (cutD_from _ 1))) a_nil) ⟨r, by simp at hns2; omega, rfl, rfl⟩) a_nil)))) (by simp)) S fun σ G H S => ⟨G, S⟩
    · cases ns with
      | nil => exact ⟨G, S⟩
      | cons x r => cases e
  rintro σ H ⟨G, S⟩
  have hsl := strip_len ns
  refine q_when (b_like (v_call0x (a_consx (v_var rfl) a_nil) ⟨ns, by omega, rfl, by rw [← due_start]⟩) (v_var rfl) (Pl.up (pl_due ns (by omega)))) S (fun e => nomatch e) fun _ G H S => ?_
  -- left, right, here
  refine q_set (P := fun d => ∃ ms, d = .tup (dI ms) ∧ ms.length ≤ 5 ∧ InB b ms) (v_callI (a_cons (P := fun d => ∃ ms, d = .lst (dI ms) ∧ (ms.length : Int) < 5 ∧ InB b ms) (EvN.ev (n_lcD (b := b) (m := 5) (v_draw (v_var rfl) v_int (by omega) (by omega)) (by omega) fun i => v_draw (v_var rfl) (v_var rfl) (by omega) (by omega)) fun ds ⟨ms, e, h⟩ => ⟨ms, by rw [e], h⟩) a_nil) fun ds ⟨d, r, e1, ⟨ms, e2, h1, h2⟩, e3⟩ => ⟨_, ⟨ms, by omega, by rw [e1, e2, e3], rfl⟩, fun d e => ⟨strip ms, e, by have := strip_len ms; omega, strip_inB h2⟩⟩) S fun d σ G H hd S => ?_
  obtain ⟨lf, rfl, hlf, hlf2⟩ := hd
  refine q_set (P := fun d => ∃ ms, d = .tup (dI ms) ∧ ms.length ≤ 5 ∧ InB b ms) (v_callI (a_cons (P := fun d => ∃ ms, d = .lst (dI ms) ∧ (ms.length : Int) < 5 ∧ InB b ms) (EvN.ev (n_lcD (b := b) (m := 5) (v_draw (v_var rfl) v_int (by omega) (by omega)) (by omega) fun i => v_draw (v_var rfl) (v_var rfl) (by omega) (by omega)) fun ds ⟨ms, e, h⟩ => ⟨ms, by rw [e], h⟩) a_nil) fun ds ⟨d, r, e1, ⟨ms, e2, h1, h2⟩, e3⟩ => ⟨_, ⟨ms, by omega, by rw [e1, e2, e3], rfl⟩, fun d e => ⟨strip ms, e, by have := strip_len ms; omega, strip_inB h2⟩⟩) S fun d σ G H hd S => ?_
  obtain ⟨rt, rfl, hrt, hrt2⟩ := hd
  refine q_set (P := Drawn b) (v_if (b_drawnEq (v_draw (v_var rfl) v_int (by omega) (by omega)) v_int) (fun _ => v_draw (v_var rfl) (v_var rfl) (by omega) (by omega)) (fun _ => EvX.any v_int ⟨0, rfl, by omega, by omega⟩)) S fun d σ G H hd S => ?_
  obtain ⟨x, rfl, hx0, hx1⟩ := hd
  -- tape
  have e1 : (dI lf).reverse ++ [Dat.int x] ++ dI rt = dI (lf.reverse ++ [x] ++ rt) := by simp
  have hz := strip_len (lf.reverse ++ [x] ++ rt)
  have hz2 : (lf.reverse ++ [x] ++ rt).length ≤ 11 := by simp; omega
  refine q_setx (d := .tup (dI (strip (lf.reverse ++ [x] ++ rt)))) (v_call0x (a_consx (EvX.to (v_cat (v_cat (v_revT (v_var rfl)) (v_tupx (a_consx (v_var rfl) a_nil) (by simp)) (by simp; omega)) (v_var rfl) (by simp; omega)) (congrArg Dat.tup e1)) a_nil) ⟨_, by omega, rfl, rfl⟩) S fun σ G H S => ?_
  have hz3 := strip_len (strip (lf.reverse ++ [x] ++ rt)).reverse
  rw [List.length_reverse] at hz3
  refine q_when (b_like (d := .tup (dI (content lf x rt))) (v_call0 (R := fun ds => ∃ st, ds = [.tup [.int st, .tup (dI lf), .int x, .tup (dI rt)]]) (EvA.imp (a_cons (v_tup (S := fun d => ∃ st, d = .tup [.int st, .tup (dI lf), .int x, .tup (dI rt)]) (a_cons (v_draw (v_var rfl) v_int (by omega) (by omega)) (a_consx (v_var rfl) (a_consx (v_var rfl) (a_consx (v_var rfl) a_nil)))) (fun ds ⟨d, r, e, _, e2⟩ => by rw [e, e2]; simp) fun ds ⟨d, r, e, ⟨v, e3, _⟩, e2⟩ => ⟨v, by rw [e, e2, e3]⟩) a_nil) fun ds ⟨d, r, e, ⟨st, e2⟩, e3⟩ => ⟨st, by rw [e, e2, e3]⟩) fun ds ⟨st, e⟩ => ⟨st, x, lf, rt, by omega, by omega, e, rfl⟩)
    (EvX.to (v_revT (v_call0x (a_consx (EvX.to (v_revT (v_var rfl)) (congrArg Dat.tup (List.map_reverse ..).symm)) a_nil) ⟨_, by rw [List.length_reverse]; omega, rfl, rfl⟩)) (congrArg Dat.tup (List.map_reverse ..).symm)) (pl_ints (by unfold content; rw [List.length_reverse]; omega))) S (fun e => nomatch e) fun _ G H S => ?_
  -- content(start(word))
  have hc : content [] ((strip ns).headD 0) (strip ns).tail = (strip (strip ns).reverse).reverse := by
    unfold content
    have e : strip ([].reverse ++ [(strip ns).headD 0] ++ (strip ns).tail) = strip ns := by
      have he := strip_ends ns
      cases h : strip ns with
      | nil => rfl
      | cons y r =>
        rw [h] at he
        exact he
    rw [e]
  have hz4 := strip_len (strip ns).reverse
  rw [List.length_reverse] at hz4
  refine q_when (b_like (d := .tup (dI (content [] ((strip ns).headD 0) (strip ns).tail))) (v_call0x (a_consx (v_call0x (a_consx (v_var rfl) a_nil) ⟨ns, by omega, rfl, rfl⟩) a_nil) ⟨0, _, [], _, by simp, by rw [List.length_tail]; omega, rfl, rfl⟩)
    (EvX.to (v_revT (v_call0x (a_consx (EvX.to (v_revT (v_call0x (a_consx (v_var rfl) a_nil) ⟨ns, by omega, rfl, rfl⟩)) (congrArg Dat.tup (List.map_reverse ..).symm)) a_nil) ⟨_, by rw [List.length_reverse]; omega, rfl, rfl⟩)) (by rw [hc]; exact congrArg Dat.tup (List.map_reverse ..).symm)) (pl_ints (by rw [hc, List.length_reverse]; omega))) S (fun e => nomatch e) fun _ G H S => ?_
  -- number
  refine q_setx (d := .int (num b ns)) (v_call0x (a_consx (v_var rfl) (a_consx (v_var rfl) a_nil)) ⟨b, ns, by omega, by omega, rfl, rfl⟩) S fun σ G H S => ?_
  have hn0 := num_nonneg (b := b) (by omega) hin
  have hn1 : num b ns < 2 ^ 200 := Int.lt_trans (num_lt (by omega) hin) (pow_le9 (by omega) hb4 _ hns2)
  refine q_when (EvBX.to (b_orx (b_like (v_call0x (a_consx (v_var rfl) (a_consx (v_var rfl) a_nil)) ⟨b, ns, by omega, by omega, rfl, rfl⟩) (v_var rfl) (n := 3) (by simp [Pl])) fun _ => b_like (d := .tup (dI (strip ns))) (Ev.imp (v_call0x (a_consx (v_var rfl) (a_consx (v_var rfl) a_nil)) ⟨num b ns, b, hn0, hn1, hb2, by omega, rfl, rfl⟩) fun d ⟨ms, e, h1, h2, h3, h4⟩ => by rw [e, num_unique hb2 h1 (strip_inB hin) h2 (strip_ends ns) (by rw [h3, num_strip])]) (v_call0x (a_consx (v_var rfl) a_nil) ⟨ns, by omega, rfl, rfl⟩) (pl_ints (by omega))) (b := false) rfl) S (fun e => nomatch e) fun _ G H S => ?_
  -- great
  refine q_setx v_int S fun σ G H S => ?_
  refine q_for1P (R := fun n => 0 ≤ n ∧ n < 16) (EvA.imp (a_cons (v_draw (v_var rfl) v_int (by omega) (by omega)) a_nil) fun ds ⟨d, r, e, ⟨v, e2, h0, h1⟩, e3⟩ => ⟨v, by rw [e, e2, e3], h0, h1⟩) (fun n h => by omega) S (fun i Γ O => O = [] ∧ ∃ g z, (0 ≤ g ∧ g < 10000 ^ i) ∧ Γ = [some (.lst (dI sc)), some (.adr p), some (.int b), some (.tup (dI ns)), some (dueOf ns), some (.tup (dI lf)), some (.tup (dI rt)), some (.int x), some (.tup (dI (strip (lf.reverse ++ [x] ++ rt)))), some (.int (num b ns)), some (.int g), z, none, none]) ⟨rfl, 0, none, ⟨by omega, by simp⟩, rfl⟩ ?_ ?_
  · rintro n i Γ O σ G H hn hi ⟨rfl, g, z, ⟨hg0, hg1⟩, rfl⟩ S
    refine g_set (P := fun d => ∃ g', d = .int g' ∧ 0 ≤ g' ∧ g' < 10000 ^ (i + 1)) (v_op (v_mul (v_var rfl) v_int (.inr ⟨by omega, by omega⟩)) (v_draw (v_var rfl) v_int (by omega) (by omega)) fun a b ea ⟨v, eb, h0, h1⟩ => ?_) S fun d σ G H hd S => ?_
    · subst ea eb
      intro G H x y k rx ry Q q
      refine rv_I0 (g := fun i j => .int (i + j)) (fun _ => .int _) G H x y k rx ry Q fun v2 d G2 H2 s e r => q v2 d G2 H2 s ⟨_, e, by omega, ?_⟩ r
      rw [Int.pow_succ]
      omega
    · obtain ⟨g', rfl, h0, h1⟩ := hd
      exact ⟨_, _, _, ⟨rfl, g', some (.int (i : Int)), ⟨h0, h1⟩, rfl⟩, S⟩
  · rintro n Γ O σ G H hn ⟨rfl, g, z, ⟨hg0, hg1⟩, rfl⟩ S
    have hg2 : g < 2 ^ 200 := Int.lt_trans hg1 (great_lt (by omega))
    refine q_set (v_call0x (a_consx (v_var rfl) (a_consx (v_var rfl) a_nil)) ⟨g, b, hg0, hg2, hb2, by omega, rfl, rfl⟩) S fun d σ G H hd S => ?_
    obtain ⟨ms, rfl, hm1, hm2, hm3, hm4⟩ := hd
    refine q_when (EvBX.to (b_orx (a := false) (b := false) (EvBX.to (b_testx (v_neD (n := 2) (v_var rfl) (v_call0x (P := (· = .tup (dI (strip ms)))) (a_consx (v_var rfl) a_nil) ⟨ms, by omega, rfl, rfl⟩) (pl_ints (by omega)) (pl_ints (by have := strip_len ms; omega)) (by omega))) ?_) fun _ => EvBX.to (b_testx (v_gt (v_lenL (ds := []) (EvN.evx (R := (· = [])) (n_lcT (fun i ds => ds = []) (v_var (d := .tup (dI ms)) rfl) rfl (fun i d hd ds e => ⟨by rw [e]; simp, (· = false), ?_, (fun e => nomatch e), fun _ => e⟩) (fun ds e => e)) fun ds e => e)) v_int)) rfl) rfl) S (fun e => nomatch e) fun _ G H S => ?_
    · rw [hm2, eqv_ints]
      simp
    · rw [List.getElem?_map] at hd
      cases hx : ms[i]? with
      | none =>
        rw [hx] at hd
        cases hd
      | some y =>
        rw [hx] at hd
        cases hd
        have hy := hm1 y (List.mem_of_getElem? hx)
        refine EvBX.to (b_notx (b_testx (v_chain v_int (v_var (d := .int y) rfl) (v_var (d := .int b) rfl) r_le r_lt))) ?_
        rw [decide_eq_true hy.1, decide_eq_true hy.2]
        rfl
    · refine g_ret (P := (· = .bl true)) (EvX.to (v_eqI (v_call0x (P := (· = .int (num b ms))) (a_consx (v_var rfl) (a_consx (v_var rfl) a_nil)) ⟨b, ms, by omega, by omega, rfl, rfl⟩) (v_var (d := .int g) rfl)) ?_) S (go_true q)
      rw [hm3]
      simp

theorem ok_main (T : Txt mg) (D1 : Df K mg "without_end_blanks" s_without_end_blanks) (D2 : Df K mg "start" s_start) (D3 : Df K mg "content" s_content) (D4 : Df K mg "number_of" s_number_of) (D5 : Df K mg "symbols_of" s_symbols_of)
    (D6 : Df K mg "_law_like" s_law_like) (D7 : Df K mg "_law_strip" s_law_strip) (D8 : Df K mg "_law_number" s_law_number) (D9 : Df K mg "_law_pool" s_law_pool) (D10 : Df K mg "_law_spread" s_law_spread) (D11 : Df K mg "_law_draw" s_law_draw) {f : Addr} {fd : FuncData} (F : Fun K "law" "law" s_law f fd) : FnOk P w K mg base CX0 6 f fd ["script"] (spLaw K) :=
  have c1 := ok_without D1 T
  ok_law F T (ok_start D2 T c1) (ok_content D3 T c1) (ok_number_of D4 T) (ok_symbols_of D5 T) (ok_like D6 T 3) (ok_stripL D7 T) (ok_stripT D7 T) (ok_law_number D8 T) (ok_pool D9 T) (ok_draw D11 T (ok_spread D10 T))

end
end K04

set_option maxHeartbeats 4000000
namespace K04
open PySem L2 Ly
theorem all_mk {l : PySem.W.OpenLaw} {w : World} {K : PySem.W.Frag} {h : Heap} {mg : Str → Option Value} {fa f0 f1 f2 f3 f4 f5 f6 f7 f8 f9 f10 f11 : Addr} (X : K.In h) (G : h.Ns mainGlobals mg) (hfa : mg "law" = some (.ref fa)) {t_BLANK : Tok}
    {od0 an0 od1 an1 od2 an2 od3 an3 od4 an4 od5 an5 od6 an6 od7 an7 od8 an8 od9 an9 od10 an10 od11 an11 : Option Addr} {sl0 sl1 sl2 sl3 sl4 sl5 sl6 sl7 sl8 sl9 sl10 sl11 : Array (Option Value)} {oc0 kV0 dc0 pm0 cd0 ct0 oc1 kV1 dc1 pm1 cd1 ct1 oc2 kV2 dc2 pm2 cd2 ct2 oc3 kV3 dc3 pm3 cd3 ct3 oc4 kV4 dc4 pm4 cd4 ct4 oc5 kV5 dc5 pm5 cd5 ct5 oc6 kV6 dc6 pm6 cd6 ct6 oc7 kV7 dc7 pm7 cd7 ct7 oc8 kV8 dc8 pm8 cd8 ct8 oc9 kV9 dc9 pm9 cd9 ct9 oc10 kV10 dc10 pm10 cd10 ct10 oc11 kV11 dc11 pm11 cd11 ct11 : Value}
    (a0 : PySem.W.nsIn K mainGlobals "without_end_blanks" = some (some (.ref f0))) (l0 : K.lookup f0 = some ⟨oc0, od0, .func (PySem.W.fnOf "without_end_blanks" "without_end_blanks" (defArgs s_without_end_blanks) (defBody s_without_end_blanks) (defScope s_without_end_blanks) .none kV0 dc0 pm0 an0 cd0 ct0), sl0⟩) (c0 : PySem.W.codeIn K cd0 "without_end_blanks" = true) (k0 : PySem.W.keepIn K (.ref f0) = true)
    (a1 : PySem.W.nsIn K mainGlobals "start" = some (some (.ref f1))) (l1 : K.lookup f1 = some ⟨oc1, od1, .func (PySem.W.fnOf "start" "start" (defArgs s_start) (defBody s_start) (defScope s_start) .none kV1 dc1 pm1 an1 cd1 ct1), sl1⟩) (c1 : PySem.W.codeIn K cd1 "start" = true) (k1 : PySem.W.keepIn K (.ref f1) = true)
    (a2 : PySem.W.nsIn K mainGlobals "content" = some (some (.ref f2))) (l2 : K.lookup f2 = some ⟨oc2, od2, .func (PySem.W.fnOf "content" "content" (defArgs s_content) (defBody s_content) (defScope s_content) .none kV2 dc2 pm2 an2 cd2 ct2), sl2⟩) (c2 : PySem.W.codeIn K cd2 "content" = true) (k2 : PySem.W.keepIn K (.ref f2) = true)
    (a3 : PySem.W.nsIn K mainGlobals "number_of" = some (some (.ref f3))) (l3 : K.lookup f3 = some ⟨oc3, od3, .func (PySem.W.fnOf "number_of" "number_of" (defArgs s_number_of) (defBody s_number_of) (defScope s_number_of) .none kV3 dc3 pm3 an3 cd3 ct3), sl3⟩) (c3 : PySem.W.codeIn K cd3 "number_of" = true) (k3 : PySem.W.keepIn K (.ref f3) = true)
    (a4 : PySem.W.nsIn K mainGlobals "symbols_of" = some (some (.ref f4))) (l4 : K.lookup f4 = some ⟨oc4, od4, .func (PySem.W.fnOf "symbols_of" "symbols_of" (defArgs s_symbols_of) (defBody s_symbols_of) (defScope s_symbols_of) .none kV4 dc4 pm4 an4 cd4 ct4), sl4⟩) (c4 : PySem.W.codeIn K cd4 "symbols_of" = true) (k4 : PySem.W.keepIn K (.ref f4) = true)
    (a5 : PySem.W.nsIn K mainGlobals "_law_like" = some (some (.ref f5))) (l5 : K.lookup f5 = some ⟨oc5, od5, .func (PySem.W.fnOf "_law_like" "_law_like" (defArgs s_law_like) (defBody s_law_like) (defScope s_law_like) .none kV5 dc5 pm5 an5 cd5 ct5), sl5⟩) (c5 : PySem.W.codeIn K cd5 "_law_like" = true) (k5 : PySem.W.keepIn K (.ref f5) = true)
    (a6 : PySem.W.nsIn K mainGlobals "_law_strip" = some (some (.ref f6))) (l6 : K.lookup f6 = some ⟨oc6, od6, .func (PySem.W.fnOf "_law_strip" "_law_strip" (defArgs s_law_strip) (defBody s_law_strip) (defScope s_law_strip) .none kV6 dc6 pm6 an6 cd6 ct6), sl6⟩) (c6 : PySem.W.codeIn K cd6 "_law_strip" = true) (k6 : PySem.W.keepIn K (.ref f6) = true)
    (a7 : PySem.W.nsIn K mainGlobals "_law_number" = some (some (.ref f7))) (l7 : K.lookup f7 = some ⟨oc7, od7, .func (PySem.W.fnOf "_law_number" "_law_number" (defArgs s_law_number) (defBody s_law_number) (defScope s_law_number) .none kV7 dc7 pm7 an7 cd7 ct7), sl7⟩) (c7 : PySem.W.codeIn K cd7 "_law_number" = true) (k7 : PySem.W.keepIn K (.ref f7) = true)
    (a8 : PySem.W.nsIn K mainGlobals "_law_pool" = some (some (.ref f8))) (l8 : K.lookup f8 = some ⟨oc8, od8, .func (PySem.W.fnOf "_law_pool" "_law_pool" (defArgs s_law_pool) (defBody s_law_pool) (defScope s_law_pool) .none kV8 dc8 pm8 an8 cd8 ct8), sl8⟩) (c8 : PySem.W.codeIn K cd8 "_law_pool" = true) (k8 : PySem.W.keepIn K (.ref f8) = true)
    (a9 : PySem.W.nsIn K mainGlobals "_law_spread" = some (some (.ref f9))) (l9 : K.lookup f9 = some ⟨oc9, od9, .func (PySem.W.fnOf "_law_spread" "_law_spread" (defArgs s_law_spread) (defBody s_law_spread) (defScope s_law_spread) .none kV9 dc9 pm9 an9 cd9 ct9), sl9⟩) (c9 : PySem.W.codeIn K cd9 "_law_spread" = true) (k9 : PySem.W.keepIn K (.ref f9) = true)
    (a10 : PySem.W.nsIn K mainGlobals "_law_draw" = some (some (.ref f10))) (l10 : K.lookup f10 = some ⟨oc10, od10, .func (PySem.W.fnOf "_law_draw" "_law_draw" (defArgs s_law_draw) (defBody s_law_draw) (defScope s_law_draw) .none kV10 dc10 pm10 an10 cd10 ct10), sl10⟩) (c10 : PySem.W.codeIn K cd10 "_law_draw" = true) (k10 : PySem.W.keepIn K (.ref f10) = true)
    (a11 : PySem.W.nsIn K mainGlobals "law" = some (some (.ref f11))) (l11 : K.lookup f11 = some ⟨oc11, od11, .func (PySem.W.fnOf "law" "law" (defArgs s_law) (defBody s_law) (defScope s_law) .none kV11 dc11 pm11 an11 cd11 ct11), sl11⟩) (c11 : PySem.W.codeIn K cd11 "law" = true) (k11 : PySem.W.keepIn K (.ref f11) = true)
    (z_all : PySem.W.nsIn K mainGlobals "all" = some none)
    (z_bool : PySem.W.nsIn K mainGlobals "bool" = some none)
    (z_divmod : PySem.W.nsIn K mainGlobals "divmod" = some none)
    (z_int : PySem.W.nsIn K mainGlobals "int" = some none)
    (z_isinstance : PySem.W.nsIn K mainGlobals "isinstance" = some none)
    (z_len : PySem.W.nsIn K mainGlobals "len" = some none)
    (z_list : PySem.W.nsIn K mainGlobals "list" = some none)
    (z_range : PySem.W.nsIn K mainGlobals "range" = some none)
    (z_reversed : PySem.W.nsIn K mainGlobals "reversed" = some none)
    (z_str : PySem.W.nsIn K mainGlobals "str" = some none)
    (z_tuple : PySem.W.nsIn K mainGlobals "tuple" = some none)
    (m_BLANK : PySem.W.nsIn K mainGlobals "BLANK" = some (some (.int 0 t_BLANK))) :
    ∃ fd : FuncData, (∀ (s : Shared) (u : Value), BindsTo s fd ⟨[u], []⟩ [("script", u)]) ∧ ∀ base : Heap, K.In base → base.Ns mainGlobals mg → FnOk l.prog w K mg base CX0 6 fa fd ["script"] (spLaw K) := by
  have e := hfa.symm.trans (PySem.W.mg_of X G a11)
  cases e
  have T : Txt mg := { n_all := PySem.W.mg_none_of X G z_all, n_bool := PySem.W.mg_none_of X G z_bool, n_divmod := PySem.W.mg_none_of X G z_divmod, n_int := PySem.W.mg_none_of X G z_int, n_isinstance := PySem.W.mg_none_of X G z_isinstance, n_len := PySem.W.mg_none_of X G z_len, n_list := PySem.W.mg_none_of X G z_list, n_range := PySem.W.mg_none_of X G z_range, n_reversed := PySem.W.mg_none_of X G z_reversed, n_str := PySem.W.mg_none_of X G z_str, n_tuple := PySem.W.mg_none_of X G z_tuple, m_BLANK := ⟨_, PySem.W.mg_of X G m_BLANK, ⟨_, rfl⟩⟩ }
  exact ⟨PySem.W.fnOf "law" "law" (defArgs s_law) (defBody s_law) (defScope s_law) .none kV11 dc11 pm11 an11 cd11 ct11, fun s u => .of_eq rfl, fun base _ _ => ok_main T ⟨_, _, L2.fun_mk (st := s_without_end_blanks) l0 c0 k0, PySem.W.mg_of X G a0⟩ ⟨_, _, L2.fun_mk (st := s_start) l1 c1 k1, PySem.W.mg_of X G a1⟩ ⟨_, _, L2.fun_mk (st := s_content) l2 c2 k2, PySem.W.mg_of X G a2⟩ ⟨_, _, L2.fun_mk (st := s_number_of) l3 c3 k3, PySem.W.mg_of X G a3⟩ ⟨_, _, L2.fun_mk (st := s_symbols_of) l4 c4 k4, PySem.W.mg_of X G a4⟩ ⟨_, _, L2.fun_mk (st := s_law_like) l5 c5 k5, PySem.W.mg_of X G a5⟩ ⟨_, _, L2.fun_mk (st := s_law_strip) l6 c6 k6, PySem.W.mg_of X G a6⟩ ⟨_, _, L2.fun_mk (st := s_law_number) l7 c7 k7, PySem.W.mg_of X G a7⟩ ⟨_, _, L2.fun_mk (st := s_law_pool) l8 c8 k8, PySem.W.mg_of X G a8⟩ ⟨_, _, L2.fun_mk (st := s_law_spread) l9 c9 k9, PySem.W.mg_of X G a9⟩ ⟨_, _, L2.fun_mk (st := s_law_draw) l10 c10 k10, PySem.W.mg_of X G a10⟩ (L2.fun_mk (st := s_law) l11 c11 k11)⟩
theorem walk {l : PySem.W.OpenLaw} {q : Program} {loose : List Str} {XP : (Str → Option Value) → Heap → Prop} {YP : World → Heap → Prop} {d : DefRec} {K : Params → PySem.W.Frag} (hn : l.most = some 63) (hdf : d.params.defaults = [])
    (hY : ∀ (w : World) (h : Heap), YP w h → (K w.params).In h)
    (F : ∀ (w : World) (mg : Str → Option Value) (fa : Addr) (h : Heap), (K w.params).In h → h.Ns mainGlobals mg → mg d.name = some (.ref fa) →
      ∃ fd : FuncData, (∀ (s : Shared) (u : Value), BindsTo s fd ⟨[u], []⟩ [("script", u)]) ∧ ∀ base : Heap, (K w.params).In base → base.Ns mainGlobals mg → FnOk l.prog w (K w.params) mg base CX0 6 fa fd ["script"] (spLaw (K w.params))) :
    PySem.W.WalkO q loose XP YP l.row.toRowW d [] (fun f vs => PySem.call f vs) :=
  L2.walk_of (n := 63) (k := 6) (x := "script") (CX := fun _ => CX0) (sp := fun w => spLaw (K w.params)) hn (by decide) hdf ⟨rfl, by decide, by decide⟩ hY F (fun _ _ a ns hl _ hS => ⟨a, ns, rfl, hS, hl, fun _ => rfl⟩) fun _ _ _ _ _ z => z
end K04
open PySem PySem.W PyProof.Rows in
set_option maxRecDepth 100000 in
set_option maxHeartbeats 0 in
theorem PySem.Challenge.cw_translatory_k04_tapes_and_their_numbers_holds : PySem.Challenge.rw_translatory_k04_tapes_and_their_numbers.Holds := by
  w_on; o_law; k_head; (case hw => w_witness2)
  k_fill
  refine K04.walk (l := PySem.Challenge.rw_translatory_k04_tapes_and_their_numbers) rfl rfl (fun w h Y => PySem.W.kIn_of Y) ?F
  case F =>
    intro w mg fa h KX G hmg
    refine' K04.all_mk KX G hmg ?a0 ?l0 ?c0 ?k0 ?a1 ?l1 ?c1 ?k1 ?a2 ?l2 ?c2 ?k2 ?a3 ?l3 ?c3 ?k3 ?a4 ?l4 ?c4 ?k4 ?a5 ?l5 ?c5 ?k5 ?a6 ?l6 ?c6 ?k6 ?a7 ?l7 ?c7 ?k7 ?a8 ?l8 ?c8 ?k8 ?a9 ?l9 ?c9 ?k9 ?a10 ?l10 ?c10 ?k10 ?a11 ?l11 ?c11 ?k11 ?z_all ?z_bool ?z_divmod ?z_int ?z_isinstance ?z_len ?z_list ?z_range ?z_reversed ?z_str ?z_tuple ?m_BLANK
    (case a0 => k_is)
    (case l0 => k_is)
    (case c0 => k_is)
    (case k0 => k_is)
    (case a1 => k_is)
    (case l1 => k_is)
    (case c1 => k_is)
    (case k1 => k_is)
    (case a2 => k_is)
    (case l2 => k_is)
    (case c2 => k_is)
    (case k2 => k_is)
    (case a3 => k_is)
    (case l3 => k_is)
    (case c3 => k_is)
    (case k3 => k_is)
    (case a4 => k_is)
    (case l4 => k_is)
    (case c4 => k_is)
    (case k4 => k_is)
    (case a5 => k_is)
    (case l5 => k_is)
    (case c5 => k_is)
    (case k5 => k_is)
    (case a6 => k_is)
    (case l6 => k_is)
    (case c6 => k_is)
    (case k6 => k_is)
    (case a7 => k_is)
    (case l7 => k_is)
    (case c7 => k_is)
    (case k7 => k_is)
    (case a8 => k_is)
    (case l8 => k_is)
    (case c8 => k_is)
    (case k8 => k_is)
    (case a9 => k_is)
    (case l9 => k_is)
    (case c9 => k_is)
    (case k9 => k_is)
    (case a10 => k_is)
    (case l10 => k_is)
    (case c10 => k_is)
    (case k10 => k_is)
    (case a11 => k_is)
    (case l11 => k_is)
    (case c11 => k_is)
    (case k11 => k_is)
    (case z_all => k_is)
    (case z_bool => k_is)
    (case z_divmod => k_is)
    (case z_int => k_is)
    (case z_isinstance => k_is)
    (case z_len => k_is)
    (case z_list => k_is)
    (case z_range => k_is)
    (case z_reversed => k_is)
    (case z_str => k_is)
    (case z_tuple => k_is)
    (case m_BLANK => k_is)
#print axioms PySem.Challenge.cw_translatory_k04_tapes_and_their_numbers_holds
