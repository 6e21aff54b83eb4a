import PyProof.Rows.All
import Wide.All
import OpenK.AllK
import Wide.FinOn
import HandS.ForMost
import HandS.ForExc
import HandS.ExcInit
import HandS.ExcField
import HandS.Deep
import HandS.TupAny
import HandS.IsInst
import HandS.Wide
import HandS.Small
import HandS.Property
import HandS.ExcValue
import HandS.ExcIs
import KE.KExcIs
import KE.DataFind
import PySem.Challenge.RW_unlikehands_k52_errors_and_fields
set_option Elab.async false
set_option linter.all false
set_option maxRecDepth 100000
set_option maxHeartbeats 4100000
namespace Vm
open L2 PyProof.Rows PySem PySem.Spec

/-! ### a mirror's values and heap: places in place of addresses -/
inductive U where
  | non | bl (b : Bool) | int (i : Int) | str (x : Str) | loc (n : Nat) | scr | exn
inductive O where
  | lst (xs : List U) | tup (xs : List U) | tpl (xs : List U) | ins (c : Nat) (fs : List (Str × U)) | exc (c : Nat) (fs : List (Str × U))
abbrev Mh := List O
inductive R (α : Type) where
  | ok (a : α) (h : Mh) | ex (c : Nat) (f : List (Str × U)) (h : Mh) | stuck
def R.bind {α β : Type} (r : R α) (f : α → Mh → R β) : R β := match r with
  | .ok a h => f a h
  | .ex c g h => .ex c g h
  | .stuck => .stuck
abbrev Sl := List (Option U)
abbrev Me := Sl → Mh → R U

/-- what is fixed through a law's call: the classes' addresses, the written part, the script -/
structure Gc where
  cl : Nat → Addr
  K : PySem.W.Frag
  sa : Addr
  ns : List Int
  exn : Option (Addr × Addr × List (Str × U)) := none

def Rl (g : Gc) (ρ : List Addr) : U → V → Prop
  | .non, v => v = .non
  | .bl b, v => v = .bl b
  | .int i, v => v = .int i
  | .str x, v => v = .str x
  | .loc n, v => ∃ a, ρ[n]? = some a ∧ v = .ref a
  | .scr, v => v = .ref g.sa
  | .exn, v => ∃ a dd fs, g.exn = some (a, dd, fs) ∧ v = .ref a
abbrev Rls (g : Gc) (ρ : List Addr) : List U → List V → Prop := Paired (Rl g ρ)
def Rf (g : Gc) (ρ : List Addr) : List (Str × U) → List (Str × V) → Prop := Paired fun p q => p.1 = q.1 ∧ Rl g ρ p.2 q.2
def Rol (g : Gc) (ρ : List Addr) : Option U → Option V → Prop
  | some w, some v => Rl g ρ w v
  | none, _ => True
  | some _, none => False
abbrev Rsl (g : Gc) (ρ : List Addr) : Sl → L2.St → Prop := Paired (Rol g ρ)
def Om (g : Gc) (ρ : List Addr) (H : Hp) (a : Addr) : O → Prop
  | .lst xs => ∃ vs, Rls g ρ xs vs ∧ H a = some (.lst vs)
  | .tup xs => ∃ vs o, Rls g ρ xs vs ∧ o.dict = none ∧ H a = some (.frz o (.tup vs))
  | .tpl xs => ∃ vs, Rls g ρ xs vs ∧ H a = some (.tup vs)
  | .ins c fs => ∃ dx gs, Rf g ρ fs gs ∧ H a = some (.ins (g.cl c) dx gs)
  | .exc c fs => (fs = [] ∧ H a = some (exo a (g.cl c) none)) ∨ ∃ dx gs, Rf g ρ fs gs ∧ H a = some (exo a (g.cl c) (some dx)) ∧ H dx = some (exd dx gs)
/-- the script: locked, or of the written part -/
def Scr (g : Gc) (H : Hp) : Prop := (∃ o, H g.sa = some (.frz o (.lst (g.ns.map V.int)))) ∨
  ∃ (o : Obj) (its : Array Value) (n : Nat), g.K.lookup g.sa = some o ∧ o.cls = .type "list" ∧ o.dict = none ∧ o.data = .seq its n ∧ its.size ≤ sizeLine ∧ Vals (g.ns.map V.int) its.toList
structure Cs (g : Gc) (ρ : List Addr) (h : Mh) (H : Hp) : Prop where
  len : ρ.length = h.length
  at_ : ∀ (n : Nat) (o : O) (a : Addr), h[n]? = some o → ρ[n]? = some a → Om g ρ H a o
  inj : ρ.Nodup
  scr : Scr g H
  xn : ∀ a dd fs, g.exn = some (a, dd, fs) → ∃ gs, Rf g ρ fs gs ∧ H dd = some (.xd gs)

section
variable {g : Gc} {ρ ρ' : List Addr} {h h' : Mh} {H H' : Hp}

theorem pre_get {n : Nat} {a : Addr} (e : ρ <+: ρ') (q : ρ[n]? = some a) : ρ'[n]? = some a := by
  obtain ⟨t, rfl⟩ := e
  obtain ⟨hl, _⟩ := List.getElem?_eq_some_iff.mp q
  rw [List.getElem?_append_left hl]
  exact q
theorem Rl.mono {u : U} {v : V} (e : ρ <+: ρ') (r : Rl g ρ u v) : Rl g ρ' u v := by
  cases u with
  | loc n =>
    obtain ⟨a, q, rfl⟩ := r
    exact ⟨a, pre_get e q, rfl⟩
  | _ => exact r
theorem Rls.mono {us : List U} {vs : List V} (e : ρ <+: ρ') (r : Rls g ρ us vs) : Rls g ρ' us vs := Paired.mapP r fun _ _ q => Rl.mono e q
theorem Rf.mono {us : List (Str × U)} {vs : List (Str × V)} (e : ρ <+: ρ') (r : Rf g ρ us vs) : Rf g ρ' us vs := Paired.mapP r fun _ _ q => ⟨q.1, Rl.mono e q.2⟩
theorem Rol.mono {u : Option U} {v : Option V} (e : ρ <+: ρ') (r : Rol g ρ u v) : Rol g ρ' u v := by
  cases u with
  | none => trivial
  | some w =>
    cases v with
    | none => exact r
    | some v => exact Rl.mono e r
theorem Rsl.mono {us : Sl} {vs : L2.St} (e : ρ <+: ρ') (r : Rsl g ρ us vs) : Rsl g ρ' us vs := Paired.mapP r fun _ _ q => Rol.mono e q
theorem Paired.get {α β : Type} {F : α → β → Prop} : ∀ {xs : List α} {ys : List β} {i : Nat} {x : α}, Paired F xs ys → xs[i]? = some x → ∃ y, ys[i]? = some y ∧ F x y
  | _, _, _, _, .nil, here => by simp at here
  | _, _, 0, _, .cons r _, here => by simp at here; subst here; exact ⟨_, rfl, r⟩
  | _, _, i + 1, x, .cons _ t, e => id <| by
    obtain ⟨u, h1, h2⟩ := Paired.get (i := i) (x := x) t (by simpa using e); exact ⟨u, by simpa using h1, h2⟩
theorem Paired.set {α β : Type} {F : α → β → Prop} {x : α} {y : β} (q : F x y) : ∀ {xs : List α} {ys : List β} (i : Nat), Paired F xs ys → Paired F (xs.set i x) (ys.set i y)
  | _, _, _, .nil => .nil
  | _, _, 0, .cons _ t => .cons q t
  | _, _, i + 1, .cons r t => .cons r (Paired.set q i t)
theorem Paired.app {α β : Type} {F : α → β → Prop} : ∀ {xs zs : List α} {ys ws : List β}, Paired F xs ys → Paired F zs ws → Paired F (xs ++ zs) (ys ++ ws)
  | _, _, _, _, .nil, s => s
  | _, _, _, _, .cons r t, s => .cons r (Paired.app t s)
theorem Paired.dropP {α β : Type} {F : α → β → Prop} : ∀ {xs : List α} {ys : List β} (n : Nat), Paired F xs ys → Paired F (xs.drop n) (ys.drop n)
  | _, _, 0, r => r
  | _, _, _ + 1, .nil => .nil
  | _, _, n + 1, .cons _ t => Paired.dropP n t
theorem Paired.takeP {α β : Type} {F : α → β → Prop} : ∀ {xs : List α} {ys : List β} (n : Nat), Paired F xs ys → Paired F (xs.take n) (ys.take n)
  | _, _, 0, _ => .nil
  | _, _, _ + 1, .nil => .nil
  | _, _, n + 1, .cons r t => .cons r (Paired.takeP n t)
theorem Paired.rep {α β : Type} {F : α → β → Prop} {x : α} {y : β} (q : F x y) : ∀ n : Nat, Paired F (List.replicate n x) (List.replicate n y)
  | 0 => .nil
  | n + 1 => .cons q (Paired.rep q n)
theorem Rls.somes {us : List U} {vs : List V} : Rls g ρ us vs → Rsl g ρ (us.map some) (vs.map some) := fun r => by
  induction r with
  | nil => exact .nil
  | cons q _ ih => exact .cons q ih

theorem Cs.get (c : Cs g ρ h H) {n : Nat} {o : O} (e : h[n]? = some o) : ∃ a, ρ[n]? = some a ∧ Om g ρ H a o := by
  have hl : n < ρ.length := by
    rw [c.len]; exact (List.getElem?_eq_some_iff.mp e).1
  exact ⟨ρ[n], List.getElem?_eq_getElem hl, c.at_ n o _ e (List.getElem?_eq_getElem hl)⟩
theorem Cs.lst (c : Cs g ρ h H) {n : Nat} {xs : List U} {v : V} (e : h[n]? = some (.lst xs)) (r : Rl g ρ (.loc n) v) : ∃ a vs, v = .ref a ∧ ρ[n]? = some a ∧ Rls g ρ xs vs ∧ H a = some (.lst vs) := by
  obtain ⟨a, q, rfl⟩ := r
  obtain ⟨vs, rv, eh⟩ := c.at_ n _ a e q
  exact ⟨a, vs, rfl, q, rv, eh⟩
theorem Cs.tup (c : Cs g ρ h H) {n : Nat} {xs : List U} {v : V} (e : h[n]? = some (.tup xs)) (r : Rl g ρ (.loc n) v) : ∃ a vs o, v = .ref a ∧ ρ[n]? = some a ∧ Rls g ρ xs vs ∧ o.dict = none ∧ H a = some (.frz o (.tup vs)) := by
  obtain ⟨a, q, rfl⟩ := r
  obtain ⟨vs, o, rv, d, eh⟩ := c.at_ n _ a e q
  exact ⟨a, vs, o, rfl, q, rv, d, eh⟩
theorem Cs.tpl (c : Cs g ρ h H) {n : Nat} {xs : List U} {v : V} (e : h[n]? = some (.tpl xs)) (r : Rl g ρ (.loc n) v) : ∃ a vs, v = .ref a ∧ ρ[n]? = some a ∧ Rls g ρ xs vs ∧ H a = some (.tup vs) := by
  obtain ⟨a, q, rfl⟩ := r
  obtain ⟨vs, rv, eh⟩ := c.at_ n _ a e q
  exact ⟨a, vs, rfl, q, rv, eh⟩
theorem Om.some {a : Addr} {o : O} (m : Om g ρ H a o) : ∃ u, H a = some u := by
  cases o with
  | lst xs => obtain ⟨vs, _, e⟩ := m; exact ⟨_, e⟩
  | tup xs => obtain ⟨vs, o, _, _, e⟩ := m; exact ⟨_, e⟩
  | tpl xs => obtain ⟨vs, _, e⟩ := m; exact ⟨_, e⟩
  | ins c fs => obtain ⟨dx, gs, _, e⟩ := m; exact ⟨_, e⟩
  | exc c fs =>
    rcases m with ⟨_, e⟩ | ⟨dx, gs, _, e, _⟩
    · exact ⟨_, e⟩
    · exact ⟨_, e⟩
theorem Cs.trk (c : Cs g ρ h H) {a : Addr} (m : a ∈ ρ) : ∃ u, H a = some u := by
  obtain ⟨n, hn, e⟩ := List.getElem_of_mem m
  have hl : n < h.length := by rw [← c.len]; exact hn
  have e2 : ρ[n]? = some a := by rw [List.getElem?_eq_getElem hn, e]
  exact (c.at_ n _ a (List.getElem?_eq_getElem hl) e2).some
theorem Om.ren {a : Addr} {o : O} {u : HO} {p : Addr} (e : ρ <+: ρ') (m : Om g ρ H a o) (hp : a ≠ p) (hx : ∀ φ : Heap → Prop, H p ≠ Option.some (HO.ext φ)) : Om g ρ' (upd H p u) a o := by
  cases o with
  | lst xs => obtain ⟨vs, r, q⟩ := m; exact ⟨vs, Rls.mono e r, by rw [upd_ne hp]; exact q⟩
  | tup xs => obtain ⟨vs, o, r, d, q⟩ := m; exact ⟨vs, o, Rls.mono e r, d, by rw [upd_ne hp]; exact q⟩
  | tpl xs => obtain ⟨vs, r, q⟩ := m; exact ⟨vs, Rls.mono e r, by rw [upd_ne hp]; exact q⟩
  | ins c fs => obtain ⟨dx, gs, r, q⟩ := m; exact ⟨dx, gs, Rf.mono e r, by rw [upd_ne hp]; exact q⟩
  | exc c fs =>
    rcases m with ⟨e0, q⟩ | ⟨dx, gs, r, q, q2⟩
    · exact .inl ⟨e0, by rw [upd_ne hp]; exact q⟩
    · exact .inr ⟨dx, gs, Rf.mono e r, by rw [upd_ne hp]; exact q, by
        rw [upd_ne]
        · exact q2
        · intro z
          rw [z] at q2
          exact hx _ q2⟩
/-- an update where the script is not -/
theorem Scr.upd {p : Addr} {u : HO} (s : Scr g H) (hp : ∀ o w, H p ≠ some (.frz o w)) : Scr g (upd H p u) := by
  rcases s with ⟨o, e⟩ | k
  · refine .inl ⟨o, ?_⟩
    rw [upd_ne]
    · exact e
    · intro z
      rw [z] at e
      exact hp _ _ e
  · exact .inr k
theorem pre_snoc (ρ : List Addr) (p : Addr) : ρ <+: ρ ++ [p] := ⟨[p], rfl⟩
/-- a new object -/
theorem Cs.new (c : Cs g ρ h H) {p : Addr} {o : O} {u : HO} (hp : H p = none) (m : Om g (ρ ++ [p]) (upd H p u) p o) : Cs g (ρ ++ [p]) (h ++ [o]) (upd H p u) := by
  have np : p ∉ ρ := fun z => by
    obtain ⟨w, e⟩ := c.trk z
    rw [hp] at e
    cases e
  refine ⟨by rw [List.length_append, List.length_append, c.len]; rfl, fun n o' a e1 e2 => ?_, ?_, c.scr.upd (fun o w z => by rw [hp] at z; cases z), fun a dd fs ex => ?_⟩
  · by_cases hn : n < h.length
    · rw [List.getElem?_append_left hn] at e1
      rw [List.getElem?_append_left (by rw [c.len]; exact hn)] at e2
      refine Om.ren (pre_snoc ρ p) (c.at_ n o' a e1 e2) (fun z => ?_) (fun φ z => by rw [hp] at z; cases z)
      exact np (z ▸ List.mem_of_getElem? e2)
    · have hl := (List.getElem?_eq_some_iff.mp e1).1
      rw [List.length_append] at hl
      have hn' : n = h.length := by
        have : [o].length = 1 := rfl
        omega
      subst hn'
      rw [List.getElem?_append_right (Nat.le_refl _), Nat.sub_self] at e1
      rw [List.getElem?_append_right (by rw [c.len]; exact Nat.le_refl _), c.len, Nat.sub_self] at e2
      cases e1
      cases e2
      exact m
  · rw [List.nodup_append]
    refine ⟨c.inj, by simp, fun a ha b hb => ?_⟩
    have : b = p := by simpa using hb
    subst this
    intro z
    subst z
    exact np ha
  · obtain ⟨gs, r, e⟩ := c.xn a dd fs ex
    refine ⟨gs, Rf.mono (pre_snoc ρ p) r, ?_⟩
    rw [upd_ne]
    · exact e
    · intro z
      rw [z, hp] at e
      cases e
theorem new_get (ρ : List Addr) (p : Addr) (c : ρ.length = h.length) : (ρ ++ [p])[h.length]? = some p := by
  rw [← c]
  simp
/-- an address beside the mirror's -/
theorem Cs.skip (c : Cs g ρ h H) {p : Addr} {u : HO} (hp : H p = none) : Cs g ρ h (upd H p u) := by
  have np : p ∉ ρ := fun z => by
    obtain ⟨w, e⟩ := c.trk z
    rw [hp] at e
    cases e
  refine ⟨c.len, fun n o' a e1 e2 => Om.ren (List.prefix_refl ρ) (c.at_ n o' a e1 e2) (fun z => np (z ▸ List.mem_of_getElem? e2)) (fun φ z => by rw [hp] at z; cases z), c.inj, c.scr.upd (fun o w z => by rw [hp] at z; cases z), fun a dd fs ex => ?_⟩
  obtain ⟨gs, r, e⟩ := c.xn a dd fs ex
  refine ⟨gs, r, ?_⟩
  rw [upd_ne]
  · exact e
  · intro z
    rw [z, hp] at e
    cases e
theorem nfL {a : Addr} {vs : List V} (e : H a = some (.lst vs)) : (∀ o w, H a ≠ some (.frz o w)) ∧ (∀ φ : Heap → Prop, H a ≠ some (HO.ext φ)) ∧ ∀ gs, H a ≠ some (.xd gs) :=
  ⟨fun _ _ z => (by rw [e] at z; cases z), fun _ z => (by rw [e] at z; cases z), fun _ z => (by rw [e] at z; cases z)⟩
/-- an object rewritten -/
theorem Cs.put (c : Cs g ρ h H) {n : Nat} {a : Addr} {o : O} {u : HO} (e : ρ[n]? = some a) (nf : (∀ o w, H a ≠ some (.frz o w)) ∧ (∀ φ : Heap → Prop, H a ≠ some (HO.ext φ)) ∧ ∀ gs, H a ≠ some (.xd gs)) (m : Om g ρ (upd H a u) a o) : Cs g ρ (h.set n o) (upd H a u) := by
  refine ⟨by rw [List.length_set]; exact c.len, fun n' o' a' e1 e2 => ?_, c.inj, c.scr.upd nf.1, fun a' dd fs ex => ?_⟩
  · by_cases hn : n = n'
    · subst hn
      rw [e] at e2
      cases e2
      have hl : n < (h.set n o).length := (List.getElem?_eq_some_iff.mp e1).1
      rw [List.length_set] at hl
      rw [List.getElem?_set_self hl] at e1
      cases e1
      exact m
    · rw [List.getElem?_set_ne hn] at e1
      refine Om.ren (List.prefix_refl ρ) (c.at_ n' o' a' e1 e2) (fun z => ?_) nf.2.1
      subst z
      obtain ⟨h1, q1⟩ := List.getElem?_eq_some_iff.mp e
      obtain ⟨h2, q2⟩ := List.getElem?_eq_some_iff.mp e2
      exact hn ((List.getElem_inj c.inj).mp (q1.trans q2.symm))
  · obtain ⟨gs, r, e⟩ := c.xn a' dd fs ex
    refine ⟨gs, r, ?_⟩
    rw [upd_ne]
    · exact e
    · intro z
      rw [z] at e
      exact nf.2.2 _ e
end

/-! ### what is wanted behind a mirror's step -/
/-- an exception's wish: its class, its fields -/
def Xp (g : Gc) (ρ : List Addr) (c : Nat) (f : List (Str × U)) (h : Mh) (E : XK) : Prop :=
  ∀ ρ' H, ρ <+: ρ' → Cs g ρ' h H →
    (f = [] → E (.ref (g.cl c)) none H) ∧ ∀ d gs, f ≠ [] → H d = none → Rf g ρ' f gs → E (.ref (g.cl c)) (some d) (upd H d (.xd gs))
def Post {α β : Type} (g : Gc) (rel : List Addr → α → β → Prop) (ρ : List Addr) (r : R α) (Q : β → Hp → Prop) (E : XK) : Prop := match r with
  | .ok a h => ∀ ρ' b H, ρ <+: ρ' → Cs g ρ' h H → rel ρ' a b → Q b H
  | .ex c f h => Xp g ρ c f h E
  | .stuck => False
/-- at a state: from here on -/
def At {α β : Type} (g : Gc) (rel : List Addr → α → β → Prop) (m : Sl → Mh → R α) (E : XK) (σ : L2.St) (H : Hp) (Q : β → Hp → Prop) : Prop :=
  ∃ ρ s h, Rsl g ρ s σ ∧ Cs g ρ h H ∧ Post g rel ρ (m s h) Q E
abbrev relB : List Addr → Bool → Bool → Prop := fun _ a b => a = b
/-- readings of expressions, tests, arguments -/
def T (g : Gc) (E : WX) (m : Me) : TE := fun σ H Q => At g (Rl g) m (WE E σ) σ H Q
def TB (g : Gc) (E : WX) (m : Sl → Mh → R Bool) : TT := fun σ H Q => At g relB m (WE E σ) σ H Q
def TL (g : Gc) (E : WX) (m : Sl → Mh → R (List U)) : TA := fun σ H Q => At g (Rls g) m (WE E σ) σ H Q
section
variable {g : Gc} {ρ ρ' : List Addr} {h h' : Mh} {H H' : Hp} {E : XK} {α β γ δ : Type} {rel : List Addr → α → β → Prop} {rel' : List Addr → γ → δ → Prop}
theorem Xp.mono {c : Nat} {f : List (Str × U)} (e : ρ <+: ρ') (x : Xp g ρ c f h E) : Xp g ρ' c f h E := fun ρ2 H2 e2 c2 => x ρ2 H2 (e.trans e2) c2
theorem Post.mono {r : R α} {Q : β → Hp → Prop} (e : ρ <+: ρ') (p : Post g rel ρ r Q E) : Post g rel ρ' r Q E := by
  cases r with
  | ok a h => exact fun ρ2 b H2 e2 c2 r2 => p ρ2 b H2 (e.trans e2) c2 r2
  | ex c f h => exact Xp.mono e p
  | stuck => exact p
theorem Post.imp {r : R α} {Q Q' : β → Hp → Prop} (p : Post g rel ρ r Q E) (hq : ∀ b H, Q b H → Q' b H) : Post g rel ρ r Q' E := by
  cases r with
  | ok a h => exact fun ρ2 b H2 e2 c2 r2 => hq _ _ (p ρ2 b H2 e2 c2 r2)
  | ex c f h => exact p
  | stuck => exact p
/-- the state behind a step, and what is left -/
theorem Post.cut {r : R α} {f : α → Mh → R γ} {Q : δ → Hp → Prop} (p : Post g rel' ρ (r.bind f) Q E) :
    Post g rel ρ r (fun b H1 => ∃ ρ1 a h1, ρ <+: ρ1 ∧ Cs g ρ1 h1 H1 ∧ rel ρ1 a b ∧ Post g rel' ρ1 (f a h1) Q E) E := by
  cases r with
  | ok a h => exact fun ρ2 b H2 e2 c2 r2 => ⟨ρ2, a, h, e2, c2, r2, Post.mono e2 p⟩
  | ex c f h => exact p
  | stuck => exact p
/-- in sequence: the next part m2 at the slots as they are -/
theorem At.seq {m : Sl → Mh → R α} {k : α → Sl → Mh → R γ} {σ : L2.St} {Q : δ → Hp → Prop} (a : At g rel' (fun s h => (m s h).bind fun x h1 => k x s h1) E σ H Q)
    {Q1 : β → Hp → Prop} (hq : ∀ ρ1 x s h1 b H1, Rsl g ρ1 s σ → Cs g ρ1 h1 H1 → rel ρ1 x b → Post g rel' ρ1 (k x s h1) Q E → Q1 b H1) : At g rel m E σ H Q1 := by
  obtain ⟨ρ, s, h, hs, c, p⟩ := a
  exact ⟨ρ, s, h, hs, c, (Post.cut (rel := rel) p).imp fun b H1 ⟨ρ1, x, h1, e1, c1, r1, p1⟩ => hq ρ1 x s h1 b H1 (Rsl.mono e1 hs) c1 r1 p1⟩
theorem Post.here {a : α} {b : β} {Q : β → Hp → Prop} (p : Post g rel ρ (.ok a h) Q E) (c : Cs g ρ h H) (r : rel ρ a b) : Q b H := p ρ b H (List.prefix_refl ρ) c r
/-- a new object is handed back -/
theorem Post.made {o : O} {u : HO} {Q : V → Hp → Prop} {p : Addr} (q : Post g (Rl g) ρ (.ok (.loc h.length) (h ++ [o])) Q E) (c : Cs g ρ h H) (hp : H p = none) (m : Om g (ρ ++ [p]) (upd H p u) p o) : Q (.ref p) (upd H p u) :=
  q (ρ ++ [p]) (.ref p) _ (pre_snoc ρ p) (c.new hp m) ⟨p, new_get ρ p c.len, rfl⟩
end

/-! ### the judgements, weakened to mirrors -/
theorem PE.im {X : Cx} {e : Expr} {t t' : TE} (h : PE X e t) (i : ∀ σ H Q, t' σ H Q → t σ H Q) : PE X e t' := ⟨fun pins s σ H Q I q => h.run pins s σ H Q I (i σ H Q q)⟩
theorem PT.im {X : Cx} {e : Expr} {t t' : TT} (h : PT X e t) (i : ∀ σ H Q, t' σ H Q → t σ H Q) : PT X e t' := ⟨fun pins s σ H Q I q => h.run pins s σ H Q I (i σ H Q q)⟩
theorem PW.im {X : Cx} {e : Expr} {t t' : TT} (h : PW X e t) (i : ∀ σ H Q, t' σ H Q → t σ H Q) : PW X e t' := ⟨fun wh pins s σ H Q I q => h.run wh pins s σ H Q I (i σ H Q q)⟩
theorem PA.im {X : Cx} {e : List Expr} {t t' : TA} (h : PA X e t) (i : ∀ σ H Q, t' σ H Q → t σ H Q) : PA X e t' := ⟨fun po pins s σ H Q I q => h.run po pins s σ H Q I (i σ H Q q)⟩
theorem PS.im {X : Cx} {e : Stmt} {t t' : TS} (h : PS X e t) (i : ∀ D σ H, t' D σ H → t D σ H) : PS X e t' := ⟨fun pins s σ H D I q => h.run pins s σ H D I (i D σ H q)⟩
theorem PSs.im {X : Cx} {e : List Stmt} {t t' : TS} (h : PSs X e t) (i : ∀ D σ H, t' D σ H → t D σ H) : PSs X e t' := ⟨fun pins s σ H D I q => h.run pins s σ H D I (i D σ H q)⟩
end Vm

set_option Elab.async false
set_option linter.all false
set_option maxRecDepth 100000
set_option maxHeartbeats 4100000
namespace Vm
open L2 PyProof.Rows PySem PySem.Spec

/-! ### expressions -/
def mV (i : Nat) : Me := fun s h => match s[i]? with
  | some (some u) => .ok u h
  | _ => .stuck
def mC (u : U) : Me := fun _ h => .ok u h
abbrev F2 := U → U → Mh → R U
def m2 (f : F2) (a b : Me) : Me := fun s h => (a s h).bind fun x h1 => (b s h1).bind fun y h2 => f x y h2
def m1 (f : U → Mh → R U) (a : Me) : Me := fun s h => (a s h).bind fun x h1 => f x h1
abbrev Ml := Sl → Mh → R (List U)
def lN : Ml := fun _ h => .ok [] h
def lC (a : Me) (r : Ml) : Ml := fun s h => (a s h).bind fun x h1 => (r s h1).bind fun xs h2 => .ok (x :: xs) h2
def newO (o : O) : Mh → R U := fun h => .ok (.loc h.length) (h ++ [o])
def mT (a : Ml) : Me := fun s h => (a s h).bind fun xs h1 => if xs.length ≤ 100000 then newO (.tup xs) h1 else .stuck
def mL (a : Ml) : Me := fun s h => (a s h).bind fun xs h1 => if xs.length ≤ 100000 then newO (.lst xs) h1 else .stuck
def mCall (d : List U → Mh → R U) (a : Ml) : Me := fun s h => (a s h).bind fun xs h1 => d xs h1
abbrev Mb := Sl → Mh → R Bool
def asB : U → Mh → R Bool := fun u h => match u with
  | .bl b => .ok b h
  | _ => .stuck
def bV (a : Me) : Mb := fun s h => (a s h).bind asB
def bAnd (a b : Mb) : Mb := fun s h => (a s h).bind fun x h1 => match x with
  | true => b s h1
  | false => .ok false h1
def bOr (a b : Mb) : Mb := fun s h => (a s h).bind fun x h1 => match x with
  | true => .ok true h1
  | false => b s h1
def bNot (a : Mb) : Mb := fun s h => (a s h).bind fun x h1 => .ok (!x) h1
def mIf (c : Mb) (a b : Me) : Me := fun s h => (c s h).bind fun x h1 => match x with
  | true => a s h1
  | false => b s h1
def mAndV (a b : Me) : Me := fun s h => (a s h).bind fun x h1 => match x with
  | .bl true => b s h1
  | .bl false => .ok (.bl false) h1
  | _ => .stuck
def mOrV (a b : Me) : Me := fun s h => (a s h).bind fun x h1 => match x with
  | .bl true => .ok (.bl true) h1
  | .bl false => b s h1
  | _ => .stuck
def mNotV (a : Me) : Me := fun s h => (a s h).bind fun x h1 => match x with
  | .bl b => .ok (.bl (!b)) h1
  | _ => .stuck

/-! ### soundness of operations by values -/
def S2 (g : Gc) (f : F2) (r : R2) : Prop := ∀ E ρ x y vx vy h H Q, Rl g ρ x vx → Rl g ρ y vy → Cs g ρ h H → Post g (Rl g) ρ (f x y h) Q E → r vx vy H Q
def S1 (g : Gc) (f : U → Mh → R U) (r : V → Hp → VK → Prop) : Prop := ∀ E ρ x vx h H Q, Rl g ρ x vx → Cs g ρ h H → Post g (Rl g) ρ (f x h) Q E → r vx H Q
def SL (g : Gc) (f : List U → Mh → R U) (r : List V → Hp → VK → Prop) : Prop := ∀ E ρ xs vs h H Q, Rls g ρ xs vs → Cs g ρ h H → Post g (Rl g) ρ (f xs h) Q E → r vs H Q

section
variable {X : Cx} {g : Gc} {E : WX} {a b c e : Expr} {A B Cc : Me} {pos : Pos}

theorem e_var {i : Nat} {x : Str} (hN : X.N[i]? = some x := by rfl) (hv : Vis X.env.scope x := by first | exact Or.inl rfl | exact Or.inr (Or.inl rfl) | exact Or.inr (Or.inr rfl)) (hd : (x == ("__debug__" : Str)) = false := by decide)
    (hcd : (x == ("__classdict__" : Str)) = false := by decide) : PE X (.Name x pos) (T g E (mV i)) := by
  refine PE.im (pe_var hN hv hd hcd) fun σ H Q ⟨ρ, s, h, hs, cs, p⟩ => ?_
  unfold mV at p
  cases es : s[i]? with
  | none => rw [es] at p; exact p.elim
  | some o =>
    rw [es] at p
    cases o with
    | none => exact p.elim
    | some u =>
      obtain ⟨ov, e1, r⟩ := Paired.get hs es
      cases ov with
      | none => exact r.elim
      | some v => exact ⟨v, e1, Post.here (rel := Rl g) p cs r⟩
theorem e_con {u : U} {v : V} (h : PE X e (tC v)) (r : ∀ ρ, Rl g ρ u v) : PE X e (T g E (mC u)) :=
  PE.im h fun _ _ _ ⟨ρ, _, _, _, cs, p⟩ => Post.here (rel := Rl g) p cs (r ρ)
theorem e_int {i j} : PE X (.Constant (.int i) j pos) (T g E (mC (.int i))) := e_con pe_int fun _ => rfl
theorem e_bl {i j} : PE X (.Constant (.bool i) j pos) (T g E (mC (.bl i))) := e_con pe_bl fun _ => rfl
theorem e_non {j} : PE X (.Constant .none j pos) (T g E (mC .non)) := e_con pe_non fun _ => rfl
theorem e_str {x y j} (hy : x = y := by rfl) : PE X (.Constant (.str x) j pos) (T g E (mC (.str y))) := by
  subst hy
  exact e_con pe_str fun _ => rfl
theorem e_glob {x : Str} {u : U} {v : V} {w : Value} (hg : Gl X x) (hm : X.mg x = some w) (r : RelV v w) (ru : ∀ ρ, Rl g ρ u v) (hd : (x == ("__debug__" : Str)) = false := by decide) : PE X (.Name x pos) (T g E (mC u)) := e_con (pe_glob hg hm r hd) ru


/-- two parts, then by values -/
theorem at2 {f : F2} {r : R2} (hs : S2 g f r) {σ : L2.St} {H : Hp} {Q : VK} (q : At g (Rl g) (m2 f A B) (WE E σ) σ H Q) : T g E A σ H fun x H1 => T g E B σ H1 fun y H2 => r x y H2 Q := by
  refine At.seq (rel := Rl g) q fun ρ1 x s h1 v H1 hs1 c1 r1 p1 => ?_
  exact ⟨ρ1, s, h1, hs1, c1, (Post.cut (rel := Rl g) p1).imp fun w H2 ⟨ρ2, y, h2, e2, c2, r2, p2⟩ => hs _ ρ2 x y v w h2 H2 Q (Rl.mono e2 r1) r2 c2 p2⟩
theorem at1 {f : U → Mh → R U} {r : V → Hp → VK → Prop} (hs : S1 g f r) {σ : L2.St} {H : Hp} {Q : VK} (q : At g (Rl g) (m1 f A) (WE E σ) σ H Q) : T g E A σ H fun x H1 => r x H1 Q :=
  At.seq (rel := Rl g) q fun ρ1 x s h1 v H1 hs1 c1 r1 p1 => hs _ ρ1 x v h1 H1 Q r1 c1 p1
theorem atL {f : List U → Mh → R U} {r : List V → Hp → VK → Prop} (hs : SL g f r) {L : Ml} {σ : L2.St} {H : Hp} {Q : VK} (q : At g (Rl g) (fun s h => (L s h).bind f) (WE E σ) σ H Q) : TL g E L σ H fun xs H1 => r xs H1 Q :=
  At.seq (rel := Rls g) (k := fun xs _ h1 => f xs h1) q fun ρ1 x s h1 v H1 hs1 c1 r1 p1 => hs _ ρ1 x v h1 H1 Q r1 c1 p1

theorem e_op {op : Operator} {f : F2} {r : R2} (ho : OpR X (binaryOp op) r) (hs : S2 g f r) (ha : PE X a (T g E A)) (hb : PE X b (T g E B)) : PE X (.BinOp a op b pos) (T g E (m2 f A B)) :=
  PE.im (pe_op ho ha hb) fun _ _ _ q => at2 hs q
theorem e_un {op : UnaryOp} {f : U → Mh → R U} {r : V → Hp → VK → Prop} (ho : UnR X (unaryOp op) r) (hs : S1 g f r) (ha : PE X a (T g E A)) : PE X (.UnaryOp op a pos) (T g E (m1 f A)) :=
  PE.im (pe_un ho ha) fun _ _ _ q => at1 hs q
theorem e_cmp {op : CmpOp} {f : F2} {r : R2} (ho : OpR X (compareOp op) r) (hs : S2 g f r) (ha : PE X a (T g E A)) (hb : PE X b (T g E B)) (hm : behindInMarks op b = false := by rfl) : PE X (.Compare a [op] [b] pos) (T g E (m2 f A B)) :=
  PE.im (pe_cmpR ho ha hb hm) fun _ _ _ q => at2 hs q
theorem e_ix {f : F2} {r : R2} (ho : IxR X r) (hs : S2 g f r) (ha : PE X a (T g E A)) (hb : PE X b (T g E B)) (hp : PlainIx b := by exact fun _ _ => rfl) : PE X (.Subscript a b pos) (T g E (m2 f A B)) :=
  PE.im (pe_ix ho ha hb hp) fun _ _ _ q => at2 hs q
theorem e_not (ha : PE X a (T g E A)) : PE X (.UnaryOp .Not a pos) (T g E (mNotV A)) := by
  refine PE.im (pe_not ha) fun σ H Q q => At.seq (rel := Rl g) q fun ρ1 x s h1 v H1 hs1 c1 r1 p1 => ?_
  cases x with
  | bl b => exact ⟨b, r1, Post.here (rel := Rl g) p1 c1 rfl⟩
  | _ => exact p1.elim
theorem e_one {op} (h : PE X a (T g E A)) : PE X (.BoolOp op [a] pos) (T g E A) := pe_one h
theorem e_and {rest : List Expr} (ha : PE X a (T g E A)) (hb : PE X (.BoolOp .And (b :: rest) pos) (T g E B)) : PE X (.BoolOp .And (a :: b :: rest) pos) (T g E (mAndV A B)) := by
  refine PE.im (pe_and ha hb) fun σ H Q q => At.seq (rel := Rl g) q fun ρ1 x s h1 v H1 hs1 c1 r1 p1 => ?_
  cases x with
  | bl k =>
    cases k with
    | true => exact ⟨true, r1, by rw [if_pos rfl]; exact ⟨ρ1, s, h1, hs1, c1, p1⟩⟩
    | false => exact ⟨false, r1, by rw [if_neg Bool.false_ne_true]; exact Post.here (rel := Rl g) p1 c1 rfl⟩
  | _ => exact p1.elim
theorem e_or {rest : List Expr} (ha : PE X a (T g E A)) (hb : PE X (.BoolOp .Or (b :: rest) pos) (T g E B)) : PE X (.BoolOp .Or (a :: b :: rest) pos) (T g E (mOrV A B)) := by
  refine PE.im (pe_or ha hb) fun σ H Q q => At.seq (rel := Rl g) q fun ρ1 x s h1 v H1 hs1 c1 r1 p1 => ?_
  cases x with
  | bl k =>
    cases k with
    | true => exact ⟨true, r1, by rw [if_pos rfl]; exact Post.here (rel := Rl g) p1 c1 rfl⟩
    | false => exact ⟨false, r1, by rw [if_neg Bool.false_ne_true]; exact ⟨ρ1, s, h1, hs1, c1, p1⟩⟩
  | _ => exact p1.elim
theorem e_if {t : Mb} (hc : PT X c (TB g E t)) (ha : PE X a (T g E A)) (hb : PE X b (T g E B)) : PE X (.IfExp c a b pos) (T g E (mIf t A B)) := by
  refine PE.im (pe_ifExp hc ha hb) fun σ H Q q => At.seq (rel := relB) q fun ρ1 x s h1 v H1 hs1 c1 r1 p1 => ?_
  cases r1
  cases x with
  | true => rw [if_pos rfl]; exact ⟨ρ1, s, h1, hs1, c1, p1⟩
  | false => rw [if_neg Bool.false_ne_true]; exact ⟨ρ1, s, h1, hs1, c1, p1⟩

/-! ### tests -/
variable {tA tB : Mb}
/-- an expression whose value is a bool -/
theorem t_val (h : PE X a (T g E A)) (he : ∀ whole, isTrue a X.env whole = (do let v ← whole; standAt a.pos; holding [v] (truthy v)) := by intro _; rfl) : PT X a (TB g E (bV A)) := by
  refine PT.im (pt_val h he) fun σ H Q q => At.seq (rel := Rl g) (k := fun x _ h1 => asB x h1) q fun ρ1 x s h1 v H1 hs1 c1 r1 p1 => ?_
  cases x with
  | bl k => exact ⟨k, r1, Post.here (rel := relB) p1 c1 rfl⟩
  | _ => exact p1.elim
theorem t_cmp {op : CmpOp} {f : F2} {r : R2} (ho : OpR X (compareOp op) r) (hs : S2 g f r) (ha : PE X a (T g E A)) (hb : PE X b (T g E B)) (hm : behindInMarks op b = false := by rfl) : PT X (.Compare a [op] [b] pos) (TB g E (bV (m2 f A B))) := by
  refine PT.im (pt_cmpR ho ha hb hm) fun σ H Q q => at2 hs ?_
  refine At.seq (rel := Rl g) (m := m2 f A B) (k := fun x _ h1 => asB x h1) q fun ρ1 x s h1 v H1 hs1 c1 r1 p1 => ?_
  cases x with
  | bl k => exact ⟨k, r1, Post.here (rel := relB) p1 c1 rfl⟩
  | _ => exact p1.elim
theorem t_not (h : PT X a (TB g E tA)) : PT X (.UnaryOp .Not a pos) (TB g E (bNot tA)) := by
  refine PT.im (pt_not h) fun σ H Q q => At.seq (rel := relB) q fun ρ1 x s h1 v H1 hs1 c1 r1 p1 => ?_
  cases r1
  exact Post.here (rel := relB) p1 c1 rfl
theorem w_and1 (h : PT X a (TB g E tA)) : PW X (.BoolOp .And [a] pos) (TB g E tA) := pw_and1 h
theorem w_or1 (h : PT X a (TB g E tA)) : PW X (.BoolOp .Or [a] pos) (TB g E tA) := pw_or1 h
theorem w_and {rest : List Expr} (ha : PT X a (TB g E tA)) (hb : PW X (.BoolOp .And (b :: rest) pos) (TB g E tB)) : PW X (.BoolOp .And (a :: b :: rest) pos) (TB g E (bAnd tA tB)) := by
  refine PW.im (pw_and ha hb) fun σ H Q q => At.seq (rel := relB) q fun ρ1 x s h1 v H1 hs1 c1 r1 p1 => ?_
  cases r1
  cases x with
  | true => rw [if_pos rfl]; exact ⟨ρ1, s, h1, hs1, c1, p1⟩
  | false => rw [if_neg Bool.false_ne_true]; exact Post.here (rel := relB) p1 c1 rfl
theorem w_or {rest : List Expr} (ha : PT X a (TB g E tA)) (hb : PW X (.BoolOp .Or (b :: rest) pos) (TB g E tB)) : PW X (.BoolOp .Or (a :: b :: rest) pos) (TB g E (bOr tA tB)) := by
  refine PW.im (pw_or ha hb) fun σ H Q q => At.seq (rel := relB) q fun ρ1 x s h1 v H1 hs1 c1 r1 p1 => ?_
  cases r1
  cases x with
  | true => rw [if_pos rfl]; exact Post.here (rel := relB) p1 c1 rfl
  | false => rw [if_neg Bool.false_ne_true]; exact ⟨ρ1, s, h1, hs1, c1, p1⟩

/-! ### exact tuples -/
def tTupX (t : TA) : TE := fun σ H Q => t σ H fun xs H1 => xs.length ≤ sizeLine ∧ ∀ p o, o.dict = none → H1 p = none → Q (.ref p) (upd H1 p (.frz o (.tup xs)))
theorem tup_laid {pins : List (Addr × Obj)} {s : Shared} {σ : L2.St} {H : Hp} {xs : List V} {us : List Value} (I : Inv X pins σ H s) (r : Vals xs us) (z : xs.length ≤ sizeLine) :
    Inv X pins σ (upd H s.heap.objs.size (.frz { cls := .type "tuple", data := .seq us.toArray } (.tup xs))) { s with heap := s.heap.push { cls := .type "tuple", data := .seq us.toArray } } :=
  I.laid (t' := s.toks) (fun b u e => Heap.get?_push_of_some _ e) (Nat.le_refl _) ⟨Heap.get?_push_size _ rfl, z, us, r, ⟨_, Heap.get?_push_size _ rfl, rfl, _, rfl⟩⟩
theorem pe_tupX {x1} {es : List Expr} {t : TA} (h : PA X es t) : PE X (.Tuple es x1 pos) (tTupX t) := by
  refine ⟨fun pins s σ H Q I hq => ?_⟩; refine wpAny_Tuple_spliced (thn (h.run pos pins s σ H _ I hq) fun us s1 ⟨xs, H1, I1, r, z, q⟩ => ⟨by rw [← r.length]; exact z, ?_⟩)
  exact ⟨.ref s1.heap.objs.size, _, tup_laid I1 r z, rfl, q _ _ rfl (I1.hok.fresh (Nat.le_refl _))⟩

/-! ### argument lists, displays, calls -/
variable {es : List Expr} {L L2' : Ml}
theorem l_nil : PA X [] (TL g E lN) := PA.im pa_nil fun _ _ _ ⟨ρ, _, _, _, cs, p⟩ => Post.here (rel := Rls g) p cs .nil
theorem l_cons (ha : PE X e (T g E A)) (hr : PA X es (TL g E L)) (hs : starEach (e :: es) X.env = (false, eval e X.env) :: starEach es X.env := by rfl) : PA X (e :: es) (TL g E (lC A L)) := by
  refine PA.im (pa_cons ha hr hs) fun σ H Q q => At.seq (rel := Rl g) q fun ρ1 x s h1 v H1 hs1 c1 r1 p1 => ?_
  refine ⟨ρ1, s, h1, hs1, c1, (Post.cut (rel := Rls g) p1).imp fun vs H2 ⟨ρ2, xs, h2, e2, c2, r2, p2⟩ => ?_⟩
  exact Post.here (rel := Rls g) p2 c2 (.cons (Rl.mono e2 r1) r2)
theorem big_line {n : Nat} (h : n ≤ 100000) : n ≤ sizeLine := by
  rw [sizeLine_eq]
  omega
theorem e_tup {x1} (h : PA X es (TL g E L)) : PE X (.Tuple es x1 pos) (T g E (mT L)) := by
  refine PE.im (pe_tupX h) fun σ H Q q => At.seq (rel := Rls g) q fun ρ1 xs s h1 vs H1 hs1 c1 r1 p1 => ?_
  by_cases hl : xs.length ≤ 100000
  · rw [if_pos hl] at p1
    refine ⟨by rw [← Paired.length r1]; exact big_line hl, fun p o ho hp => Post.made p1 c1 hp ⟨vs, o, Rls.mono (pre_snoc _ _) r1, ho, upd_same⟩⟩
  · rw [if_neg hl] at p1
    exact p1.elim
theorem e_lst (h : PA X es (TL g E L)) : PE X (.List es pos) (T g E (mL L)) := by
  refine PE.im (pe_lst h) fun σ H Q q => At.seq (rel := Rls g) q fun ρ1 xs s h1 vs H1 hs1 c1 r1 p1 => ?_
  by_cases hl : xs.length ≤ 100000
  · rw [if_pos hl] at p1
    refine ⟨by rw [← Paired.length r1]; exact big_line hl, fun p hp => Post.made p1 c1 hp ⟨vs, Rls.mono (pre_snoc _ _) r1, upd_same⟩⟩
  · rw [if_neg hl] at p1
    exact p1.elim
/-- a builtin's call -/
def mBt (f : List U → Mh → R U) (a : Ml) : Me := fun s h => (a s h).bind f
theorem e_callB {x : Str} {p : Pos} {id : String} {f : List U → Mh → R U} {r : List V → Hp → VK → Prop} (hc : CallR X (.builtin id) r) (hs : SL g f r) (hg : Gl X x) (hm : X.mg x = none) (hv : bootBuiltins x = some (.builtin id)) (ha : PA X (e :: es) (TL g E L)) (hn : x ≠ "__name__" := by decide) (hdb : (x == ("__debug__" : Str)) = false := by decide)
    (he : starEach (e :: es) X.env = (false, eval e X.env) :: starEach es X.env := by rfl) (hpl : (backTo pos (starEach es X.env)).any (·.1) = false := by rfl) : PE X (.Call (.Name x p) (e :: es) [] pos) (T g E (mBt f L)) :=
  PE.im (pe_callB hc hg hm hv ha hn hdb he hpl) fun _ _ _ q => atL hs q
theorem e_callTy {x : Str} {p : Pos} {id : String} {f : List U → Mh → R U} {r : List V → Hp → VK → Prop} (hc : CallR X (.type id) r) (hs : SL g f r) (hg : Gl X x) (hm : X.mg x = none) (hv : bootBuiltins x = some (.type id)) (ha : PA X (e :: es) (TL g E L)) (hn : x ≠ "__name__" := by decide) (hdb : (x == ("__debug__" : Str)) = false := by decide)
    (he : starEach (e :: es) X.env = (false, eval e X.env) :: starEach es X.env := by rfl) (hpl : (backTo pos (starEach es X.env)).any (·.1) = false := by rfl) : PE X (.Call (.Name x p) (e :: es) [] pos) (T g E (mBt f L)) :=
  PE.im (pe_callTy hc hg hm hv ha hn hdb he hpl) fun _ _ _ q => atL hs q
/-- what a def promises: its mirror's answer -/
def spM (g : Gc) (n : Nat) (d : List U → Mh → R U) : Sp := fun vs H Q E => vs.length = n ∧ ∃ ρ xs h, Rls g ρ xs vs ∧ Cs g ρ h H ∧ Post g (Rl g) ρ (d xs h) Q E
theorem e_call {k : Nat} {f : Addr} {fd : FuncData} {ps : List Str} {n : Nat} {d : List U → Mh → R U} {x : Str} {p : Pos} (F : FnOk X.prog X.w X.K X.mg X.base (L2.CX X.prog X.w) k f fd ps (spM g n d)) (hr : Room k X.A) (hg : Gl X x) (hm : X.mg x = some (.ref f)) (hk : PySem.W.keepIn X.K (.ref f) = true) (hb : Binds X.K fd ps []) (tk : Takes X E)
    (ha : PA X (e :: es) (TL g E L)) (hl : ∀ s h xs h', L s h = .ok xs h' → xs.length = n) (hdb : (x == ("__debug__" : Str)) = false := by decide) (he : starEach (e :: es) X.env = (false, eval e X.env) :: starEach es X.env := by rfl) (hpl : (backTo pos (starEach es X.env)).any (·.1) = false := by rfl) :
    PE X (.Call (.Name x p) (e :: es) [] pos) (T g E (mCall d L)) := by
  refine PE.im (pe_callS F hr hg hm hk hb (fun σ => passAt tk σ) ha hdb he hpl) fun σ H Q q => ?_
  obtain ⟨ρ, s, h, hs, cs, p⟩ := q
  refine ⟨ρ, s, h, hs, cs, ?_⟩
  cases el : L s h with
  | ok xs h1 =>
    unfold mCall at p
    rw [el] at p
    intro ρ1 vs H1 e1 c1 r1
    refine ⟨by rw [← Paired.length r1]; exact hl _ _ _ _ el, ρ1, xs, h1, r1, c1, Post.mono e1 p⟩
  | ex c f h1 =>
    unfold mCall at p
    rw [el] at p
    exact p
  | stuck =>
    unfold mCall at p
    rw [el] at p
    exact p.elim
theorem lN_len : ∀ (s : Sl) (h : Mh) (xs : List U) (h' : Mh), lN s h = .ok xs h' → xs.length = 0 := fun _ _ _ _ e => by
  unfold lN at e
  cases e
  rfl
theorem lC_len {n : Nat} {L : Ml} {A : Me} (hl : ∀ (s : Sl) (h : Mh) (xs : List U) (h' : Mh), L s h = .ok xs h' → xs.length = n) : ∀ (s : Sl) (h : Mh) (xs : List U) (h' : Mh), lC A L s h = .ok xs h' → xs.length = n + 1 := fun s h xs h' e => by
  unfold lC at e
  cases ea : A s h with
  | ok x h1 =>
    rw [ea] at e
    simp only [R.bind] at e
    cases el : L s h1 with
    | ok ys h2 =>
      rw [el] at e
      simp only [R.ok.injEq] at e
      rw [← e.1, List.length_cons, hl _ _ _ _ el]
    | ex c f h2 => rw [el] at e; cases e
    | stuck => rw [el] at e; cases e
  | ex c f h1 => rw [ea] at e; cases e
  | stuck => rw [ea] at e; cases e
end
end Vm

set_option Elab.async false
set_option linter.all false
set_option maxRecDepth 100000
set_option maxHeartbeats 4100000
namespace Vm
open L2 PyProof.Rows PySem PySem.Spec

/-! ### statements -/
inductive RS where
  | nx (s : Sl) (h : Mh) | rt (u : U) (h : Mh) | bk (s : Sl) (h : Mh) | ct (s : Sl) (h : Mh) | ex (c : Nat) (f : List (Str × U)) (s : Sl) (h : Mh) | stuck
abbrev Ms := Sl → Mh → RS
def R.bindS {α : Type} (r : R α) (s : Sl) (f : α → Mh → RS) : RS := match r with
  | .ok a h => f a h
  | .ex c g h => .ex c g s h
  | .stuck => .stuck
def XpS (g : Gc) (ρ : List Addr) (c : Nat) (f : List (Str × U)) (s : Sl) (h : Mh) (W : WX) : Prop :=
  ∀ ρ' σ H, ρ <+: ρ' → Cs g ρ' h H → Rsl g ρ' s σ →
    (f = [] → W (.ref (g.cl c)) none σ H) ∧ ∀ d gs, f ≠ [] → H d = none → Rf g ρ' f gs → W (.ref (g.cl c)) (some d) σ (upd H d (.xd gs))
def PostS (g : Gc) (W : WX) (ρ : List Addr) (r : RS) (D : Ends) : Prop := match r with
  | .nx s h => ∀ ρ' σ H, ρ <+: ρ' → Cs g ρ' h H → Rsl g ρ' s σ → D.nx σ H
  | .rt u h => ∀ ρ' v H, ρ <+: ρ' → Cs g ρ' h H → Rl g ρ' u v → D.rt v H
  | .bk s h => ∀ ρ' σ H, ρ <+: ρ' → Cs g ρ' h H → Rsl g ρ' s σ → D.bk σ H
  | .ct s h => ∀ ρ' σ H, ρ <+: ρ' → Cs g ρ' h H → Rsl g ρ' s σ → D.ct σ H
  | .ex c f s h => XpS g ρ c f s h W
  | .stuck => False
def AtS (g : Gc) (W : WX) (m : Ms) (D : Ends) (σ : L2.St) (H : Hp) : Prop := ∃ ρ s h, Rsl g ρ s σ ∧ Cs g ρ h H ∧ PostS g W ρ (m s h) D
def TSm (g : Gc) (W : WX) (m : Ms) : TS := fun D σ H => AtS g W m D σ H

def sPass : Ms := fun s h => .nx s h
def sSeq (a b : Ms) : Ms := fun s h => match a s h with
  | .nx s1 h1 => b s1 h1
  | r => r
def sE (a : Me) : Ms := fun s h => (a s h).bindS s fun _ h1 => .nx s h1
def sRet (a : Me) : Ms := fun s h => (a s h).bindS s fun u h1 => .rt u h1
def sRetN : Ms := fun _ h => .rt .non h
def sBreak : Ms := fun s h => .bk s h
def sCont : Ms := fun s h => .ct s h
def sIf (c : Mb) (a b : Ms) : Ms := fun s h => (c s h).bindS s fun k h1 => match k with
  | true => a s h1
  | false => b s h1
/-- targets -/
abbrev Gt := U → Sl → Mh → Option Sl
abbrev Gts := List U → Sl → Mh → Option Sl
def gtN (i : Nat) : Gt := fun u s _ => some (s.set i (some u))
def gtNil : Gts := fun us s _ => match us with
  | [] => some s
  | _ => none
def gtCons (a : Gt) (b : Gts) : Gts := fun us s h => match us with
  | u :: r => (a u s h).bind fun s1 => b r s1 h
  | [] => none
def gtT (n : Nat) (b : Gts) : Gt := fun u s h => match u with
  | .loc k => match h[k]? with
    | some (.tup xs) => if xs.length = n then b xs s h else none
    | some (.tpl xs) => if xs.length = n then b xs s h else none
    | _ => none
  | _ => none
def sAsg (a : Me) (t : Gt) : Ms := fun s h => (a s h).bindS s fun u h1 => match t u s h1 with
  | some s1 => .nx s1 h1
  | none => .stuck
/-- what is walked: turn by turn -/
abbrev Itm := Nat → Mh → R (Option U)
abbrev Mi := Sl → Mh → R Itm
def ItP (g : Gc) (ρ : List Addr) (J : It) (i : Nat) (h : Mh) (H : Hp) (r : R (Option U)) : Prop := match r with
  | .ok none h' => h' = h ∧ J.stop i H
  | .ok (some x) h' => J.go i H ∧ ∀ v H', J.yld i H v H' → ∃ ρ', ρ <+: ρ' ∧ Cs g ρ' h' H' ∧ Rl g ρ' x v
  | _ => True
def ItOk (g : Gc) (ρ0 : List Addr) (it : Itm) (J : It) : Prop := ∀ ρ i h H, ρ0 <+: ρ → Cs g ρ h H → ItP g ρ J i h H (it i h)
def loopS (it : Itm) (t : Gt) (b : Ms) : Nat → Nat → Sl → Mh → RS
  | 0, _, _, _ => .stuck
  | n + 1, i, s, h => match it i h with
    | .ok none h1 => .nx s h1
    | .ok (some x) h1 => match t x s h1 with
      | some s1 => match b s1 h1 with
        | .nx s2 h2 => loopS it t b n (i + 1) s2 h2
        | .ct s2 h2 => loopS it t b n (i + 1) s2 h2
        | .bk s2 h2 => .nx s2 h2
        | r => r
      | none => .stuck
    | _ => .stuck
def lim : Nat := 100000
def sFor (mi : Mi) (t : Gt) (b : Ms) : Ms := fun s h => (mi s h).bindS s fun it h1 => loopS it t b lim 0 s h1

section
variable {g : Gc} {ρ ρ' : List Addr} {h h' : Mh} {H H' : Hp} {W : WX} {α β : Type} {rel : List Addr → α → β → Prop} {D D' : Ends}
theorem XpS.mono {c : Nat} {f : List (Str × U)} {s : Sl} (e : ρ <+: ρ') (x : XpS g ρ c f s h W) : XpS g ρ' c f s h W := fun ρ2 σ H2 e2 c2 r2 => x ρ2 σ H2 (e.trans e2) c2 r2
theorem PostS.mono {r : RS} (e : ρ <+: ρ') (p : PostS g W ρ r D) : PostS g W ρ' r D := by
  cases r with
  | nx s h => exact fun ρ2 b H2 e2 c2 r2 => p ρ2 b H2 (e.trans e2) c2 r2
  | rt s h => exact fun ρ2 b H2 e2 c2 r2 => p ρ2 b H2 (e.trans e2) c2 r2
  | bk s h => exact fun ρ2 b H2 e2 c2 r2 => p ρ2 b H2 (e.trans e2) c2 r2
  | ct s h => exact fun ρ2 b H2 e2 c2 r2 => p ρ2 b H2 (e.trans e2) c2 r2
  | ex c f s h => exact XpS.mono e p
  | stuck => exact p
/-- an expression first -/
theorem AtS.seqE {m : Sl → Mh → R α} {k : α → Ms} {σ : L2.St} (a : AtS g W (fun s h => (m s h).bindS s fun x h1 => k x s h1) D σ H)
    {Q1 : β → Hp → Prop} (hq : ∀ ρ1 x s h1 b H1, Rsl g ρ1 s σ → Cs g ρ1 h1 H1 → rel ρ1 x b → PostS g W ρ1 (k x s h1) D → Q1 b H1) : At g rel m (WE W σ) σ H Q1 := by
  obtain ⟨ρ, s, h, hs, c, p⟩ := a
  refine ⟨ρ, s, h, hs, c, ?_⟩
  dsimp only at p
  cases em : m s h with
  | ok x h1 =>
    rw [em] at p
    exact fun ρ1 b H1 e1 c1 r1 => hq ρ1 x s h1 b H1 (Rsl.mono e1 hs) c1 r1 (PostS.mono e1 p)
  | ex c f h1 =>
    rw [em] at p
    exact fun ρ1 H1 e1 c1 => p ρ1 σ H1 e1 c1 (Rsl.mono e1 hs)
  | stuck =>
    rw [em] at p
    exact p.elim
theorem PostS.seq {r : RS} {b : Ms} (p : PostS g W ρ (match r with | .nx s1 h1 => b s1 h1 | r => r) D) : PostS g W ρ r { D with nx := TSm g W b D } := by
  cases r with
  | nx s h => exact fun ρ2 σ H2 e2 c2 r2 => ⟨ρ2, s, h, r2, c2, PostS.mono e2 p⟩
  | _ => exact p
end

section
variable {X : Cx} {g : Gc} {W : WX} {a b c e : Expr} {A B Cc : Me} {pos : Pos} {st : Stmt} {sts : List Stmt} {M N : Ms}
theorem s_nil : PSs X [] (TSm g W sPass) := PSs.im pss_nil fun D σ H ⟨ρ, s, h, hs, cs, p⟩ => p ρ σ H (List.prefix_refl ρ) cs hs
theorem s_cons (h1 : PS X st (TSm g W M)) (h2 : PSs X sts (TSm g W N)) : PSs X (st :: sts) (TSm g W (sSeq M N)) :=
  PSs.im (pss_cons h1 h2) fun D σ H ⟨ρ, s, h, hs, cs, p⟩ => ⟨ρ, s, h, hs, cs, PostS.seq p⟩
theorem s_one (h1 : PS X st (TSm g W M)) : PSs X [st] (TSm g W M) := pss_one h1
theorem s_pass : PS X (.Pass pos) (TSm g W sPass) := PS.im ps_pass fun D σ H ⟨ρ, s, h, hs, cs, p⟩ => p ρ σ H (List.prefix_refl ρ) cs hs
theorem s_doc {x j pos pos'} : PS X (.Expr (.Constant (.str x) j pos) pos') (TSm g W sPass) := PS.im ps_doc fun D σ H ⟨ρ, s, h, hs, cs, p⟩ => p ρ σ H (List.prefix_refl ρ) cs hs
theorem s_break : PS X (.Break pos) (TSm g W sBreak) := PS.im ps_break fun D σ H ⟨ρ, s, h, hs, cs, p⟩ => p ρ σ H (List.prefix_refl ρ) cs hs
theorem s_cont : PS X (.Continue pos) (TSm g W sCont) := PS.im ps_continue fun D σ H ⟨ρ, s, h, hs, cs, p⟩ => p ρ σ H (List.prefix_refl ρ) cs hs
theorem s_expr (he : PE X e (T g W A)) (hs : swapsWith e none pos.line X.env = pure false := by rfl) : PS X (.Expr e pos) (TSm g W (sE A)) :=
  PS.im (ps_expr he hs) fun D σ H q => AtS.seqE (rel := Rl g) (k := fun _ s h1 => .nx s h1) q fun ρ1 x s h1 b H1 hs c1 r1 p => p ρ1 σ H1 (List.prefix_refl _) c1 hs
theorem s_ret (he : PE X e (T g W A)) : PS X (.Return (some e) pos) (TSm g W (sRet A)) :=
  PS.im (ps_ret he) fun D σ H q => AtS.seqE (rel := Rl g) (k := fun u _ h1 => .rt u h1) q fun ρ1 x s h1 b H1 hs c1 r1 p => p ρ1 b H1 (List.prefix_refl _) c1 r1
theorem s_retN : PS X (.Return none pos) (TSm g W sRetN) := PS.im ps_retN fun D σ H ⟨ρ, s, h, hs, cs, p⟩ => p ρ .non H (List.prefix_refl ρ) cs rfl
theorem s_if {x y : List Stmt} {t : Mb} (hc : PT X c (TB g W t)) (ha : PSs X x (TSm g W M)) (hb : PSs X y (TSm g W N)) : PS X (.If c x y pos) (TSm g W (sIf t M N)) := by
  refine PS.im (ps_if hc ha hb) fun D σ H q => AtS.seqE (rel := relB) (m := t) (k := fun k s h1 => match k with | true => M s h1 | false => N s h1) q fun ρ1 x s h1 b H1 hs c1 r1 p => ?_
  cases r1
  cases x with
  | true => rw [if_pos rfl]; exact ⟨ρ1, s, h1, hs, c1, p⟩
  | false => rw [if_neg Bool.false_ne_true]; exact ⟨ρ1, s, h1, hs, c1, p⟩

/-! ### targets -/
def TGm (g : Gc) (is : List Nat) (t : Gt) : TG := fun v σ H Q => ∃ ρ u s h, Rl g ρ u v ∧ Rsl g ρ s σ ∧ Cs g ρ h H ∧ match t u s h with
  | some s1 => ∀ σ1, Rsl g ρ s1 σ1 → (∀ vs, (∀ i ∈ is, i ∈ vs) → wipe σ1 vs = wipe σ vs) → Q σ1 H
  | none => False
def TGsm (g : Gc) (is : List Nat) (t : Gts) : TGs := fun vs σ H Q => ∃ ρ us s h, Rls g ρ us vs ∧ Rsl g ρ s σ ∧ Cs g ρ h H ∧ match t us s h with
  | some s1 => ∀ σ1, Rsl g ρ s1 σ1 → (∀ vs, (∀ i ∈ is, i ∈ vs) → wipe σ1 vs = wipe σ vs) → Q σ1 H
  | none => False
theorem PG.im {tg : Expr} {t t' : TG} (h : PG X tg t) (i : ∀ v σ H Q, t' v σ H Q → t v σ H Q) : PG X tg t' := ⟨fun pins s σ H v u Q I r q => h.run pins s σ H v u Q I r (i v σ H Q q)⟩
theorem PGs.im {tg : List Expr} {t t' : TGs} (h : PGs X tg t) (i : ∀ v σ H Q, t' v σ H Q → t v σ H Q) : PGs X tg t' := ⟨fun pins s σ H v u Q I r q => h.run pins s σ H v u Q I r (i v σ H Q q)⟩
theorem wipe_set {x : Option V} {i : Nat} : ∀ {vs : List Nat} {σ : L2.St}, i ∈ vs → wipe (σ.set i x) vs = wipe σ vs
  | v :: vs, σ, hm => by
    unfold wipe
    by_cases hv : i ∈ vs
    · rw [wipe_set hv]
    · have e : i = v := by
        rcases List.mem_cons.mp hm with (e | e)
        · exact e
        · exact absurd e hv
      subst e
      have gen : ∀ (us : List Nat) (σ : L2.St), (wipe (σ.set i x) us).set i none = (wipe σ us).set i none := fun us => by
        induction us with
        | nil => intro σ; unfold wipe; rw [List.set_set]
        | cons u us ih =>
          intro σ
          unfold wipe
          by_cases hu : u = i
          · subst hu; rw [List.set_set, List.set_set]; exact ih σ
          · rw [List.set_comm _ _ hu, List.set_comm _ _ hu, ih σ]
      exact gen vs σ
theorem g_name {i : Nat} {x : Str} (hN : X.N.Nodup) (hi : X.N[i]? = some x := by rfl) (hx : Loc X.env.scope x := by first | exact Or.inl rfl | exact Or.inr rfl) (hf : X.fn x = true ∨ X.env.scope.names.lookup x = some .local := by first | exact .inl rfl | exact .inr rfl) :
    PG X (.Name x pos) (TGm g [i] (gtN i)) :=
  PG.im (pg_name hN hi hx hf) fun v σ H Q ⟨ρ, u, s, h, r, hs, cs, p⟩ => p _ (Paired.set (F := Rol g ρ) (x := some u) (y := some v) r i hs) fun vs hv => wipe_set (hv i (by simp))
theorem gs_nil : PGs X [] (TGsm g [] gtNil) := by
  refine PGs.im pgs_nil fun v σ H Q ⟨ρ, us, s, h, r, hs, cs, p⟩ => ?_
  cases r with
  | nil => exact ⟨rfl, p σ hs fun _ _ => rfl⟩
  | cons _ _ => exact p.elim
theorem TGsm.cut {is js : List Nat} {t : Gt} {ts : Gts} {v : List V} {σ : L2.St} {H : Hp} {Q : L2.St → Hp → Prop} (q : TGsm g (is ++ js) (gtCons t ts) v σ H Q) : gCons (TGm g is t) (TGsm g js ts) v σ H Q := by
  obtain ⟨ρ, us, s, h, r, hs, cs, p⟩ := q
  match us, v, r, p with
  | [], [], .nil, p => exact p.elim
  | u :: us, w :: ws, .cons r1 r2, p =>
    refine ⟨w, ws, rfl, ρ, u, s, h, r1, hs, cs, ?_⟩
    cases et : t u s h with
    | none =>
      simp only [gtCons, et, Option.bind] at p
    | some s1 =>
      simp only [gtCons, et, Option.bind] at p
      intro σ1 hs1 hw1
      refine ⟨ρ, us, s1, h, r2, hs1, cs, ?_⟩
      cases e2 : ts us s1 h with
      | none =>
        rw [e2] at p
        exact p.elim
      | some s2 =>
        rw [e2] at p
        exact fun σ2 hs2 hw2 => p σ2 hs2 fun vs hv => (hw2 vs fun i hi => hv i (List.mem_append_right _ hi)).trans (hw1 vs fun i hi => hv i (List.mem_append_left _ hi))
theorem gs_cons {es : List Expr} {is js : List Nat} {t : Gt} {ts : Gts} (h1 : PG X e (TGm g is t)) (h2 : PGs X es (TGsm g js ts))
    (hs : (assignEach (e :: es) X.env).map (·.2) = assign e X.env :: (assignEach es X.env).map (·.2) := by rfl) : PGs X (e :: es) (TGsm g (is ++ js) (gtCons t ts)) :=
  PGs.im (pgs_cons h1 h2 hs) fun _ _ _ _ q => q.cut
theorem g_tup {es : List Expr} {k n : Nat} {is : List Nat} {ts : Gts} (hc : X.calm = true) (h : PGs X es (TGsm g is ts))
    (hn : (assignEach es X.env).length = n := by rfl) (hst : (assignEach es X.env).findIdx? (·.1) = none := by rfl) : PG X (.Tuple es k pos) (TGm g is (gtT n ts)) := by
  refine PG.im (pg_tup hc h hn hst) fun v σ H Q ⟨ρ, u, s, hh, r, hs, cs, p⟩ => ?_
  cases u with
  | loc m =>
    simp only [gtT] at p
    cases em : hh[m]? with
    | none => rw [em] at p; exact p.elim
    | some o =>
      rw [em] at p
      cases o with
      | tup xs =>
        obtain ⟨a, vs, o, rfl, ea, rv, _, eh⟩ := cs.tup em r
        simp only at p
        by_cases hl : xs.length = n
        · rw [if_pos hl] at p
          exact ⟨a, vs, rfl, .inl (.inr ⟨o, eh⟩), by rw [← Paired.length rv]; exact hl, ρ, xs, s, hh, rv, hs, cs, p⟩
        · rw [if_neg hl] at p
          exact p.elim
      | tpl xs =>
        obtain ⟨a, vs, rfl, ea, rv, eh⟩ := cs.tpl em r
        simp only at p
        by_cases hl : xs.length = n
        · rw [if_pos hl] at p
          exact ⟨a, vs, rfl, SqT.of eh, by rw [← Paired.length rv]; exact hl, ρ, xs, s, hh, rv, hs, cs, p⟩
        · rw [if_neg hl] at p
          exact p.elim
      | _ => exact p.elim
  | _ => exact p.elim
theorem s_asg {tg : Expr} {is : List Nat} {t : Gt} (he : PE X e (T g W A)) (hg : PG X tg (TGm g is t)) (hs : swapsWithSole [tg] e pos.line X.env = pure false := by rfl) (hw : swappedStores [tg] e X.env = pure none := by rfl)
    (h1 : (assignEach [tg] X.env).map (·.2) = [assign tg X.env] := by rfl) : PS X (.Assign [tg] e pos) (TSm g W (sAsg A t)) := by
  refine PS.im (ps_asg he hg hs hw h1) fun D σ H q => AtS.seqE (rel := Rl g) (m := A) (k := fun u s h1 => match t u s h1 with | some s1 => .nx s1 h1 | none => .stuck) q fun ρ1 x s h1 b H1 hs c1 r1 p => ?_
  refine ⟨ρ1, x, s, h1, r1, hs, c1, ?_⟩
  cases et : t x s h1 with
  | none => rw [et] at p; exact p.elim
  | some s1 =>
    rw [et] at p
    exact fun σ1 hs1 _ => p ρ1 σ1 H1 (List.prefix_refl _) c1 hs1
theorem s_set {i : Nat} {x : Str} {pos' : Pos} (hN : X.N.Nodup) (he : PE X e (T g W A)) (hi : X.N[i]? = some x := by rfl) (hx : Loc X.env.scope x := by first | exact Or.inl rfl | exact Or.inr rfl) (hs : swapsWith e (some (.Name x pos')) pos.line X.env = pure false := by rfl) (hf : X.fn x = true ∨ X.env.scope.names.lookup x = some .local := by first | exact .inl rfl | exact .inr rfl) :
    PS X (.Assign [.Name x pos'] e pos) (TSm g W (sAsg A (gtN i))) :=
  PS.im (ps_set hN hi hx he hs hf) fun D σ H q => AtS.seqE (rel := Rl g) (m := A) (k := fun u s h1 => .nx (s.set i (some u)) h1) q fun ρ1 u s h1 v H1 hs c1 r1 p =>
    p ρ1 _ H1 (List.prefix_refl _) c1 (Paired.set (F := Rol g ρ1) (x := some u) (y := some v) r1 i hs)

/-! ### for -/
def TIt (g : Gc) (W : WX) (m : Mi) : TI := fun σ H R' => At g (ItOk g) m (WE W σ) σ H R'
theorem PI.im {tg it : Expr} {t t' : TI} (h : PI X tg it t) (i : ∀ σ H Q, t' σ H Q → t σ H Q) : PI X tg it t' := ⟨fun pins s σ H R I q => h.run pins s σ H R I (i σ H R q)⟩
theorem ItOk.mono {ρ ρ' : List Addr} {it : Itm} {J : It} (e : ρ <+: ρ') (k : ItOk g ρ it J) : ItOk g ρ' it J := fun ρ2 i h H e2 c2 => k ρ2 i h H (e.trans e2) c2
theorem s_for {tg iter : Expr} {body : List Stmt} {mi : Mi} {is : List Nat} {t : Gt} (hp : PassesOwn (model X.prog X.w) X.A X.env X.xe) (hc : X.calm = true) (hi : PI X tg iter (TIt g W mi)) (hg : PG X tg (TGm g is t)) (hb : PSs X body (TSm g W M))
    (hs : ∀ x, foldedSetIterable iter X.env x = pure x := by intro _; rfl) : PS X (.For tg iter body [] pos) (TSm g W (sFor mi t M)) := by
  refine PS.im (ps_for hp hc hi hg hb hs) fun D σ H q => AtS.seqE (rel := ItOk g) (m := mi) (k := fun it s h1 => loopS it t M lim 0 s h1) q fun ρ1 it s h1 J H1 hs c1 k1 p => ?_
  refine ⟨fun i n σ H => ∃ ρ s h, ρ1 <+: ρ ∧ Rsl g ρ s σ ∧ Cs g ρ h H ∧ PostS g W ρ (loopS it t M n i s h) D, ⟨lim, ρ1, s, h1, List.prefix_refl _, hs, c1, p⟩, ?_⟩
  rintro i n σ H ⟨ρ, s, h, e1, hs, cs, p⟩
  have kk := k1 ρ i h H e1 cs
  cases n with
  | zero => exact p.elim
  | succ n =>
    unfold loopS at p
    cases ei : it i h with
    | ok o h2 =>
      rw [ei] at p kk
      cases o with
      | none =>
        obtain ⟨rfl, st⟩ := kk
        exact .inl ⟨st, p ρ σ H (List.prefix_refl _) cs hs⟩
      | some x =>
        obtain ⟨go, yl⟩ := kk
        refine .inr ⟨go, fun σ' H' => ∃ ρ s h, ρ1 <+: ρ ∧ Rsl g ρ s σ' ∧ Cs g ρ h H' ∧ PostS g W ρ (loopS it t M n (i + 1) s h) D, fun σ' H' z => ⟨n, Nat.lt_succ_self n, z⟩, fun v H' y => ?_⟩
        obtain ⟨ρ2, e2, c2, r2⟩ := yl v H' y
        refine ⟨ρ2, x, s, h2, r2, Rsl.mono e2 hs, c2, ?_⟩
        simp only at p
        cases et : t x s h2 with
        | none => rw [et] at p; exact p.elim
        | some s1 =>
          rw [et] at p
          simp only at p
          refine fun σ1 hs1 _ => ⟨ρ2, s1, h2, hs1, c2, ?_⟩
          cases eb : M s1 h2 with
          | nx s2 h3 =>
            rw [eb] at p
            exact fun ρ3 σ3 H3 e3 c3 r3 => ⟨ρ3, s2, h3, (e1.trans e2).trans e3, r3, c3, PostS.mono (e2.trans e3) p⟩
          | ct s2 h3 =>
            rw [eb] at p
            exact fun ρ3 σ3 H3 e3 c3 r3 => ⟨ρ3, s2, h3, (e1.trans e2).trans e3, r3, c3, PostS.mono (e2.trans e3) p⟩
          | bk s2 h3 =>
            rw [eb] at p
            exact fun ρ3 σ3 H3 e3 c3 r3 => p ρ3 σ3 H3 (e2.trans e3) c3 r3
          | rt u h3 =>
            rw [eb] at p
            exact fun ρ3 σ3 H3 e3 c3 r3 => p ρ3 σ3 H3 (e2.trans e3) c3 r3
          | ex c f s2 h3 =>
            rw [eb] at p
            exact XpS.mono e2 p
          | stuck =>
            rw [eb] at p
            exact p.elim
    | ex c f h2 => rw [ei] at p; exact p.elim
    | stuck => rw [ei] at p; exact p.elim

/-! ### what a loop walks -/
def itL (n : Nat) : Itm := fun i h => match h[n]? with
  | some (.lst xs) => .ok xs[i]? h
  | _ => .stuck
def itT (n : Nat) : Itm := fun i h => match h[n]? with
  | some (.tup xs) => .ok xs[i]? h
  | _ => .stuck
def itR (lo : Int) (n : Nat) : Itm := fun i h => if i < n then .ok (some (.int (lo + i))) h else .ok none h
def iL (a : Me) : Mi := fun s h => (a s h).bind fun u h1 => match u with
  | .loc n => match h1[n]? with
    | some (.lst _) => .ok (itL n) h1
    | _ => .stuck
  | _ => .stuck
def iT (a : Me) : Mi := fun s h => (a s h).bind fun u h1 => match u with
  | .loc n => match h1[n]? with
    | some (.tup _) => .ok (itT n) h1
    | _ => .stuck
  | _ => .stuck
def iR1 (L : Ml) : Mi := fun s h => (L s h).bind fun us h1 => match us with
  | [.int j] => if -(2 ^ 62) ≤ j ∧ j < 2 ^ 62 then .ok (itR 0 j.toNat) h1 else .stuck
  | _ => .stuck
def iR2 (L : Ml) : Mi := fun s h => (L s h).bind fun us h1 => match us with
  | [.int i, .int j] => if -(2 ^ 62) ≤ i ∧ i < 2 ^ 62 ∧ -(2 ^ 62) ≤ j ∧ j < 2 ^ 62 then .ok (itR i (j - i).toNat) h1 else .stuck
  | _ => .stuck
theorem itL_ok {K : PySem.W.Frag} {ρ : List Addr} {n : Nat} {a : Addr} (ea : ρ[n]? = some a) : ItOk g ρ (itL n) (Itl K a) := fun ρ2 i h H e2 c2 => by
  unfold itL
  cases eh : h[n]? with
  | none => trivial
  | some o =>
    cases o with
    | lst xs =>
      have ea2 := pre_get e2 ea
      obtain ⟨vs, rv, q⟩ := c2.at_ n _ a eh ea2
      cases ex : xs[i]? with
      | none =>
        show ItP _ _ _ _ _ _ (.ok xs[i]? h)
        rw [ex]
        refine ⟨rfl, vs, SqL.of q, ?_⟩
        rw [← Paired.length rv]
        exact List.getElem?_eq_none_iff.mp ex
      | some x =>
        obtain ⟨v, ev, r⟩ := Paired.get rv ex
        show ItP _ _ _ _ _ _ (.ok xs[i]? h)
        rw [ex]
        refine ⟨⟨vs, v, SqL.of q, ev⟩, fun v' H' y => ?_⟩
        obtain ⟨rfl, y⟩ := y
        have ev' := y vs (SqL.of q)
        rw [ev] at ev'
        cases ev'
        exact ⟨ρ2, List.prefix_refl _, c2, r⟩
    | _ => trivial
theorem itT_ok {K : PySem.W.Frag} {ρ : List Addr} {n : Nat} {a : Addr} (ea : ρ[n]? = some a) : ItOk g ρ (itT n) (Itt K a) := fun ρ2 i h H e2 c2 => by
  unfold itT
  cases eh : h[n]? with
  | none => trivial
  | some o =>
    cases o with
    | tup xs =>
      have ea2 := pre_get e2 ea
      obtain ⟨vs, ob, rv, _, q⟩ := c2.at_ n _ a eh ea2
      have q : SqT K H a vs := .inl (.inr ⟨ob, q⟩)
      cases ex : xs[i]? with
      | none =>
        show ItP _ _ _ _ _ _ (.ok xs[i]? h)
        rw [ex]
        refine ⟨rfl, vs, q, ?_⟩
        rw [← Paired.length rv]
        exact List.getElem?_eq_none_iff.mp ex
      | some x =>
        obtain ⟨v, ev, r⟩ := Paired.get rv ex
        show ItP _ _ _ _ _ _ (.ok xs[i]? h)
        rw [ex]
        refine ⟨⟨vs, v, q, ev⟩, fun v' H' y => ?_⟩
        obtain ⟨rfl, y⟩ := y
        have ev' := y vs (q)
        rw [ev] at ev'
        cases ev'
        exact ⟨ρ2, List.prefix_refl _, c2, r⟩
    | _ => trivial
theorem itR_ok {ρ : List Addr} {lo : Int} {n : Nat} : ItOk g ρ (itR lo n) (Itr lo n) := fun ρ2 i h H e2 c2 => by
  unfold itR
  by_cases hi : i < n
  · rw [if_pos hi]
    refine ⟨hi, fun v H' y => ?_⟩
    obtain ⟨rfl, rfl⟩ := y
    exact ⟨ρ2, List.prefix_refl _, c2, rfl⟩
  · rw [if_neg hi]
    exact ⟨rfl, Nat.le_of_not_lt hi⟩
theorem i_list {tg : Expr} (ha : PE X a (T g W A)) : PI X tg a (TIt g W (iL A)) := by
  refine PI.im (pi_list ha) fun σ H R' q => At.seq (rel := Rl g) q fun ρ1 x s h1 v H1 hs1 c1 r1 p1 => ?_
  cases x with
  | loc n =>
    simp only at p1
    cases eh : h1[n]? with
    | none => rw [eh] at p1; exact p1.elim
    | some o =>
      rw [eh] at p1
      cases o with
      | lst xs =>
        obtain ⟨ad, vs, rfl, ea, rv, q⟩ := c1.lst eh r1
        exact ⟨ad, rfl, ⟨vs, SqL.of q⟩, Post.here (rel := ItOk g) p1 c1 (itL_ok ea)⟩
      | _ => exact p1.elim
  | _ => exact p1.elim
theorem i_tup {tg : Expr} (ha : PE X a (T g W A)) : PI X tg a (TIt g W (iT A)) := by
  refine PI.im (pi_tup ha) fun σ H R' q => At.seq (rel := Rl g) q fun ρ1 x s h1 v H1 hs1 c1 r1 p1 => ?_
  cases x with
  | loc n =>
    simp only at p1
    cases eh : h1[n]? with
    | none => rw [eh] at p1; exact p1.elim
    | some o =>
      rw [eh] at p1
      cases o with
      | tup xs =>
        obtain ⟨ad, vs, o, rfl, ea, rv, _, q⟩ := c1.tup eh r1
        exact ⟨ad, rfl, ⟨vs, .inl (.inr ⟨o, q⟩)⟩, Post.here (rel := ItOk g) p1 c1 (itT_ok ea)⟩
      | _ => exact p1.elim
  | _ => exact p1.elim
theorem i_range1 {tg : Expr} {L : Ml} {p : Pos} (hg : Gl X "range") (hm : X.mg "range" = none) (ha : PA X [a] (TL g W L)) (hs : starEach [a] X.env = [(false, eval a X.env)] := by rfl) : PI X tg (.Call (.Name "range" p) [a] [] pos) (TIt g W (iR1 L)) := by
  refine PI.im (pi_range1 hg hm ha hs) fun σ H R' q => At.seq (rel := Rls g) q fun ρ1 xs s h1 v H1 hs1 c1 r1 p1 => ?_
  cases r1 with
  | nil => exact p1.elim
  | cons r1 r2 =>
    rename_i x v xs vs
    cases r2 with
    | cons _ _ => cases x <;> exact p1.elim
    | nil =>
      cases x with
      | int j =>
        simp only at p1
        by_cases hj : -(2 ^ 62) ≤ j ∧ j < 2 ^ 62
        · rw [if_pos hj] at p1
          exact ⟨j, by rw [r1], hj.1, hj.2, Post.here (rel := ItOk g) p1 c1 itR_ok⟩
        · rw [if_neg hj] at p1
          exact p1.elim
      | _ => exact p1.elim
theorem i_range2 {tg : Expr} {L : Ml} {p : Pos} (hg : Gl X "range") (hm : X.mg "range" = none) (ha : PA X [a, b] (TL g W L)) (hs : starEach [a, b] X.env = [(false, eval a X.env), (false, eval b X.env)] := by rfl) (hs2 : starEach [b] X.env = [(false, eval b X.env)] := by rfl) :
    PI X tg (.Call (.Name "range" p) [a, b] [] pos) (TIt g W (iR2 L)) := by
  refine PI.im (pi_range2 hg hm ha hs hs2) fun σ H R' q => At.seq (rel := Rls g) q fun ρ1 xs s h1 v H1 hs1 c1 r1 p1 => ?_
  cases r1 with
  | nil => exact p1.elim
  | cons r1 r2 =>
    rename_i x v xs vs
    cases r2 with
    | nil => cases x <;> exact p1.elim
    | cons r2 r3 =>
      rename_i y w ys ws
      cases x with
      | int i =>
        cases y with
        | int j =>
          cases r3 with
          | cons _ _ => exact p1.elim
          | nil =>
            simp only at p1
            by_cases hj : -(2 ^ 62) ≤ i ∧ i < 2 ^ 62 ∧ -(2 ^ 62) ≤ j ∧ j < 2 ^ 62
            · rw [if_pos hj] at p1
              exact ⟨i, j, by rw [r1, r2], hj, Post.here (rel := ItOk g) p1 c1 itR_ok⟩
            · rw [if_neg hj] at p1
              exact p1.elim
        | _ => exact p1.elim
      | _ => exact p1.elim
end
end Vm

set_option Elab.async false
set_option linter.all false
set_option maxRecDepth 100000
set_option maxHeartbeats 4100000
namespace Vm
open L2 PyProof.Rows PySem PySem.Spec

/-! ### list comprehensions -/
def bYes : Mb := fun _ h => .ok true h
def wipeM (s : Sl) : List Nat → Sl
  | [] => s
  | v :: vs => (wipeM s vs).set v none
def loopC (it : Itm) (t : Gt) (q : Mb) (e : Me) (s : Sl) (n : Nat) : Nat → Nat → Mh → R U
  | 0, _, _ => .stuck
  | k + 1, i, h => match it i h with
    | .ok none h1 => .ok (.loc n) h1
    | .ok (some x) h1 => match t x s h1 with
      | some s1 => match q s1 h1 with
        | .ok true h2 => match e s1 h2 with
          | .ok y h3 => match h3[n]? with
            | some (.lst acc) => if acc.length < 100000 then loopC it t q e s n k (i + 1) (h3.set n (.lst (acc ++ [y]))) else .stuck
            | _ => .stuck
          | _ => .stuck
        | .ok false h2 => loopC it t q e s n k (i + 1) h2
        | _ => .stuck
      | none => .stuck
    | _ => .stuck
def mLc (mi : Mi) (t : Gt) (q : Mb) (e : Me) (vs : List Nat) : Me := fun s h => (mi s h).bind fun it h1 => loopC it t q e (wipeM s vs) h1.length lim 0 (h1 ++ [.lst []])
abbrev W0 : WX := fun _ _ _ _ => False
section
variable {g : Gc} {ρ ρ' : List Addr} {W : WX}
theorem Rsl.wipe {s : Sl} {σ : L2.St} (r : Rsl g ρ s σ) : ∀ vs, Rsl g ρ (wipeM s vs) (wipe σ vs)
  | [] => r
  | v :: vs => Paired.set (F := Rol g ρ) (x := none) (y := none) trivial v (Rsl.wipe r vs)
theorem wipe_self {σ : L2.St} : ∀ {vs : List Nat}, wipe (wipe σ vs) vs = wipe σ vs := fun {vs} => by
  have gen : ∀ (us ws : List Nat), (∀ i ∈ us, i ∈ ws) → wipe (wipe σ us) ws = wipe σ ws := fun us => by
    induction us with
    | nil => intro ws _; rfl
    | cons u us ih =>
      intro ws hw
      show wipe ((wipe σ us).set u none) ws = wipe σ ws
      rw [wipe_set (hw u List.mem_cons_self)]
      exact ih ws fun i hi => hw i (List.mem_cons_of_mem _ hi)
  exact gen vs vs fun _ h => h
theorem lim_line {n : Nat} (h : n < 100000) : n < sizeLine := by
  rw [sizeLine_eq]
  omega
end
section
variable {X : Cx} {g : Gc} {W : WX} {a b c e : Expr} {A B Cc : Me} {pos : Pos}
theorem b_yes : PTs X [] (TB g W bYes) := ⟨fun pins s σ H Q I q => pts_nil.run pins s σ H Q I (by obtain ⟨ρ, s, h, hs, cs, p⟩ := q; exact Post.here (rel := relB) p cs rfl)⟩
theorem b_one {t : Mb} (h : PT X c (TB g W t)) : PTs X [c] (TB g W t) := pts_one h
/-- the comprehension's reading -/
theorem lc_read {mi : Mi} {is : List Nat} {t : Gt} {q : Mb} {el : Me} {vs : List Nat} (hv : ∀ i ∈ is, i ∈ vs) {σ : L2.St} {H : Hp} {Q : VK} (z : T g W (mLc mi t q el vs) σ H Q) : tLc (TIt g W mi) (TGm g is t) (TB g W0 q) (T g W0 el) vs σ H Q := by
  refine At.seq (rel := ItOk g) z fun ρ1 it s h1 J H1 hs c1 k1 p => ?_
  intro D hD
  have c0 : Cs g (ρ1 ++ [D]) (h1 ++ [.lst []]) (upd H1 D (.lst [])) := c1.new hD ⟨[], .nil, upd_same⟩
  have eD : (ρ1 ++ [D])[h1.length]? = some D := new_get ρ1 D c1.len
  refine ⟨fun i n H => ∃ ρ h, ρ1 ++ [D] <+: ρ ∧ Cs g ρ h H ∧ Post g (Rl g) ρ (loopC it t q el (wipeM s vs) h1.length n i h) Q (WE W σ), ⟨lim, _, _, List.prefix_refl _, c0, Post.mono (pre_snoc _ _) p⟩, ?_⟩
  rintro i n H ⟨ρ, h, e1, cs, p⟩
  have e0 : ρ1 <+: ρ := (pre_snoc _ _).trans e1
  have kk := k1 ρ i h H e0 cs
  have ws : Rsl g ρ (wipeM s vs) (wipe σ vs) := Rsl.mono e0 (Rsl.wipe hs vs)
  cases n with
  | zero => exact p.elim
  | succ n =>
    unfold loopC at p
    cases ei : it i h with
    | ok o h2 =>
      rw [ei] at p kk
      cases o with
      | none =>
        obtain ⟨rfl, st⟩ := kk
        exact .inl ⟨st, p ρ (.ref D) H (List.prefix_refl _) cs ⟨D, pre_get e1 eD, rfl⟩⟩
      | some x =>
        obtain ⟨go, yl⟩ := kk
        refine .inr ⟨go, fun H' => ∃ ρ h, ρ1 ++ [D] <+: ρ ∧ Cs g ρ h H' ∧ Post g (Rl g) ρ (loopC it t q el (wipeM s vs) h1.length n (i + 1) h) Q (WE W σ), fun H' w => ⟨n, Nat.lt_succ_self n, w⟩, fun v H' y => ?_⟩
        obtain ⟨ρ2, e2, c2, r2⟩ := yl v H' y
        refine ⟨ρ2, x, wipeM s vs, h2, r2, Rsl.mono e2 ws, c2, ?_⟩
        simp only at p
        cases et : t x (wipeM s vs) h2 with
        | none => rw [et] at p; exact p.elim
        | some s1 =>
          rw [et] at p
          simp only at p
          refine fun σ1 hs1 hw1 => ⟨(hw1 vs hv).trans wipe_self, ρ2, s1, h2, hs1, c2, ?_⟩
          cases eq : q s1 h2 with
          | ok k h3 =>
            rw [eq] at p
            intro ρ3 k' H3 e3 c3 r3
            cases r3
            cases k with
            | true =>
              rw [if_pos rfl]
              simp only at p
              refine ⟨ρ3, s1, h3, Rsl.mono e3 hs1, c3, ?_⟩
              cases ee : el s1 h3 with
              | ok y h4 =>
                rw [ee] at p
                simp only at p
                intro ρ4 yv H4 e4 c4 r4
                have e14 : ρ1 ++ [D] <+: ρ4 := ((e1.trans e2).trans e3).trans e4
                cases en : h4[h1.length]? with
                | none => rw [en] at p; exact p.elim
                | some o =>
                  rw [en] at p
                  cases o with
                  | lst acc =>
                    simp only at p
                    obtain ⟨accv, ra, ea⟩ := c4.at_ _ _ D en (pre_get e14 eD)
                    by_cases hl : acc.length < 100000
                    · rw [if_pos hl] at p
                      refine ⟨accv, ea, by rw [← Paired.length ra]; exact lim_line hl, ρ4, _, e14, c4.put (o := .lst (acc ++ [y])) (pre_get e14 eD) (nfL ea) ⟨accv ++ [yv], Paired.app ra (.cons r4 .nil), upd_same⟩, Post.mono ((e2.trans e3).trans e4) p⟩
                    · rw [if_neg hl] at p
                      exact p.elim
                  | _ => exact p.elim
              | ex c f h4 => rw [ee] at p; exact p.elim
              | stuck => rw [ee] at p; exact p.elim
            | false =>
              rw [if_neg Bool.false_ne_true]; exact ⟨ρ3, h3, (e1.trans e2).trans e3, c3, Post.mono (e2.trans e3) p⟩
          | ex c f h3 => rw [eq] at p; exact p.elim
          | stuck => rw [eq] at p; exact p.elim
    | ex c f h2 => rw [ei] at p; exact p.elim
    | stuck => rw [ei] at p; exact p.elim
theorem e_lc {elt tg iter : Expr} {ifs : List Expr} {scope : Scope} {own : List (Str × Nat)} {mi : Mi} {is : List Nat} {t : Gt} {q : Mb} {el : Me} (hc : X.calm = true) (hN : X.N.Nodup) (hi : PI X tg iter (TIt g W mi)) (ok : BlkOk X.N X.env.scope scope own)
    (hg : ∀ (s : Shared) (H : Hp) (C : Addr) (cl : List (Str × Addr)) (fp : List Addr), PG (X.blk s H scope (compEnvC scope cl C X.env) fp) tg (TGm g is t)) (ht : ∀ (s : Shared) (H : Hp) (C : Addr) (cl : List (Str × Addr)) (fp : List Addr), PTs (X.blk s H scope (compEnvC scope cl C X.env) fp) ifs (TB g W0 q))
    (he : ∀ (s : Shared) (H : Hp) (C : Addr) (cl : List (Str × Addr)) (fp : List Addr), PE (X.blk s H scope (compEnvC scope cl C X.env) fp) elt (T g W0 el)) (hv : ∀ i ∈ is, i ∈ own.map (·.2)) (hs : ∀ x, foldedSetIterable iter X.env x = pure x := by intro _; rfl) :
    PE X (.ListComp elt [⟨tg, iter, ifs, 0⟩] scope pos) (T g W (mLc mi t q el (own.map (·.2)))) :=
  PE.im (pe_lc hc hN hi ok hg ht he hs) fun σ H Q z => lc_read hv z
theorem s_setLc {i : Nat} {y : Str} {py spos : Pos} {elt tg iter : Expr} {ifs : List Expr} {scope : Scope} {own : List (Str × Nat)} {mi : Mi} {is : List Nat} {t : Gt} {q : Mb} {el : Me} (hc : X.calm = true) (hN : X.N.Nodup) (hy : X.N[i]? = some y) (hyl : X.env.scope.names.lookup y = some .local)
    (hsw : swapsWith (.ListComp elt [⟨tg, iter, ifs, 0⟩] scope pos) (some (.Name y py)) spos.line X.env = pure true) (hi : PI X tg iter (TIt g W mi)) (ok : BlkOk X.N X.env.scope scope own)
    (hg : ∀ (s : Shared) (H : Hp) (C : Addr) (cl : List (Str × Addr)) (fp : List Addr), PG (X.blk s H scope (compEnvC scope cl C X.env) fp) tg (TGm g is t)) (ht : ∀ (s : Shared) (H : Hp) (C : Addr) (cl : List (Str × Addr)) (fp : List Addr), PTs (X.blk s H scope (compEnvC scope cl C X.env) fp) ifs (TB g W0 q))
    (he : ∀ (s : Shared) (H : Hp) (C : Addr) (cl : List (Str × Addr)) (fp : List Addr), PE (X.blk s H scope (compEnvC scope cl C X.env) fp) elt (T g W0 el)) (hv : ∀ i ∈ is, i ∈ own.map (·.2)) (hs : ∀ x, foldedSetIterable iter X.env x = pure x := by intro _; rfl) :
    PS X (.Assign [.Name y py] (.ListComp elt [⟨tg, iter, ifs, 0⟩] scope pos) spos) (TSm g W (sAsg (mLc mi t q el (own.map (·.2))) (gtN i))) :=
  PS.im (ps_setLc hc hN hy hyl hsw hi ok hg ht he hs) fun D σ H z => lc_read hv (AtS.seqE (rel := Rl g) (k := fun u s h1 => .nx (s.set i (some u)) h1) z fun ρ1 u s h1 v H1 hs c1 r1 p =>
    p ρ1 _ H1 (List.prefix_refl _) c1 (Paired.set (F := Rol g ρ1) (x := some u) (y := some v) r1 i hs))
end

/-! ### a def -/
def finR : RS → R U
  | .nx _ h => .ok .non h
  | .rt u h => .ok u h
  | .ex c f _ h => .ex c f h
  | _ => .stuck
def runB (N : Nat) (m : Ms) : List U → Mh → R U := fun us h => finR (m (us.map some ++ List.replicate (N - us.length) none) h)
theorem spM_len {g : Gc} {n : Nat} {d : List U → Mh → R U} : ∀ vs H Q E, spM g n d vs H Q E → vs.length = n := fun _ _ _ _ h => h.1
theorem run_read {g : Gc} {N : List Str} {n : Nat} {m : Ms} {vs : List V} {H : Hp} {Q : VK} {E : XK} (q : spM g n (runB N.length m) vs H Q E) : TSm g (fun cls d _ H => E cls d H) m { nx := fun _ H' => Q .non H', rt := Q } (L2.start N vs) H := by
  obtain ⟨_, ρ, us, h, r, cs, p⟩ := q
  refine ⟨ρ, us.map some ++ List.replicate (N.length - us.length) none, h, ?_, cs, ?_⟩
  · unfold L2.start
    refine Paired.app (Rls.somes r) ?_
    rw [← Paired.length r]
    exact Paired.rep (F := Rol g ρ) (x := none) (y := none) trivial _
  · unfold runB at p
    cases em : m (us.map some ++ List.replicate (N.length - us.length) none) h with
    | nx s h1 => rw [em] at p; exact fun ρ2 σ H2 e2 c2 _ => p ρ2 .non H2 e2 c2 rfl
    | rt u h1 => rw [em] at p; exact fun ρ2 v H2 e2 c2 r2 => p ρ2 v H2 e2 c2 r2
    | bk s h1 => rw [em] at p; exact p.elim
    | ct s h1 => rw [em] at p; exact p.elim
    | ex c f s h1 => rw [em] at p; exact fun ρ2 σ H2 e2 c2 _ => p ρ2 H2 e2 c2
    | stuck => rw [em] at p; exact p.elim
/-- a def's promise by its body's mirror -/
theorem fn_ok {P : Program} {w : World} {K : PySem.W.Frag} {mg : Str → Option Value} {base : Heap} {g : Gc} {x qual : Str} {st : Stmt} {f : Addr} {fd : FuncData} {N ps : List Str} {k : Nat} {m : Ms} (F : Fun K x qual st f fd) (S : FnScope N ps (defScope st))
    (body : ∀ (cdv : Value) (A : Around) (outer : List Env) (s : Shared) (H : Hp) (E : XK), Room k (A.deeper (envOfC qual (defScope st) s.heap.objs.size f cdv)) →
      PSs (cxOf (L2.CX P w) P w K mg base N qual (defScope st) f cdv A outer s H E) (defBody st) (TSm g (fun cls d _ H => E cls d H) m)) :
    FnOk P w K mg base (L2.CX P w) (k + 1) f fd ps (spM g ps.length (runB N.length m)) :=
  F.okX S spM_len fun cdv A outer s H vs Q E hr h => ⟨_, body cdv A outer s H E hr, run_read h⟩
theorem fn_ok2 {P : Program} {w : World} {K : PySem.W.Frag} {mg : Str → Option Value} {base : Heap} {g : Gc} {x qual : Str} {st : Stmt} {f : Addr} {fd : FuncData} {N ps : List Str} {k : Nat} {m : Ms} (F : Fun K x qual st f fd) (S : FnScope N ps (defScope st))
    (body : ∀ (cdv : Value) (A : Around) (outer : List Env) (s : Shared) (H : Hp) (E : XK), Room k (A.deeper (envOfC qual (defScope st) s.heap.objs.size f cdv)) →
      (cxOf (L2.CX P w) P w K mg base N qual (defScope st) f cdv A outer s H E).A.units + 65 < cLine →
      PassesOwn (model P w) (cxOf (L2.CX P w) P w K mg base N qual (defScope st) f cdv A outer s H E).A (cxOf (L2.CX P w) P w K mg base N qual (defScope st) f cdv A outer s H E).env (cxOf (L2.CX P w) P w K mg base N qual (defScope st) f cdv A outer s H E).xe →
      Takes (cxOf (L2.CX P w) P w K mg base N qual (defScope st) f cdv A outer s H E) (fun cls d _ H => E cls d H) →
      PSs (cxOf (L2.CX P w) P w K mg base N qual (defScope st) f cdv A outer s H E) (defBody st) (TSm g (fun cls d _ H => E cls d H) m)) :
    FnOk P w K mg base (L2.CX P w) (k + 1) f fd ps (spM g ps.length (runB N.length m)) :=
  fn_ok F S fun cdv A outer s H E hr => body cdv A outer s H E hr (by have := hr.un; show (A.deeper (envOfC qual (defScope st) s.heap.objs.size f cdv)).units + 65 < cLine; omega) (passes_of rfl) (takes_of rfl rfl rfl rfl)
end Vm

set_option Elab.async false
set_option linter.all false
set_option maxRecDepth 100000
set_option maxHeartbeats 4100000
namespace Vm
open L2 PyProof.Rows PySem PySem.Spec

/-! ### data of any depth, read off a mirror's heap -/
def rdL (f : U → Option PyData) : List U → Option (List PyData)
  | [] => some []
  | u :: us => match f u with
    | some d => match rdL f us with
      | some ds => some (d :: ds)
      | none => none
    | none => none
def rd (h : Mh) : Nat → U → Option PyData
  | _, .non => some .none
  | _, .bl b => some (.bool b)
  | _, .int i => some (.int i)
  | _, .str x => some (.str x)
  | 0, .loc _ => none
  | k + 1, .loc n => match h[n]? with
    | some (.lst xs) => match rdL (rd h k) xs with
      | some ds => some (.list ds)
      | none => none
    | some (.tup xs) => match rdL (rd h k) xs with
      | some ds => some (.tuple ds)
      | none => none
    | _ => none
  | _, .scr => none
  | _, .exn => none
theorem rdL_dp {g : Gc} {K : PySem.W.Frag} {ρ : List Addr} {H : Hp} {f : U → Option PyData} (hf : ∀ u v d, Rl g ρ u v → f u = some d → Dp K H v d) : ∀ (us : List U) (vs : List V) (ds : List PyData), Rls g ρ us vs → rdL f us = some ds → DpAll K H vs ds
  | [], _, _, .nil, e => by
    unfold rdL at e
    cases e
    exact .nil
  | u :: us, _, ds, .cons r rs, e => by
    unfold rdL at e
    cases e1 : f u with
    | none => rw [e1] at e; cases e
    | some d =>
      rw [e1] at e
      cases e2 : rdL f us with
      | none => rw [e2] at e; cases e
      | some dt =>
        rw [e2] at e
        cases e
        exact .cons (hf _ _ _ r e1) (rdL_dp hf _ _ _ rs e2)
theorem rd_dp {g : Gc} {K : PySem.W.Frag} {ρ : List Addr} {h : Mh} {H : Hp} (cs : Cs g ρ h H) : ∀ (k : Nat) (u : U) (v : V) (d : PyData), Rl g ρ u v → rd h k u = some d → Dp K H v d := fun k => by
  induction k with
  | zero =>
    intro u v d r e
    cases u with
    | non => unfold rd at e; cases e; cases r; exact .non
    | bl b => unfold rd at e; cases e; cases r; exact .bl b
    | int b => unfold rd at e; cases e; cases r; exact .int b
    | str b => unfold rd at e; cases e; cases r; exact .str b
    | loc n => unfold rd at e; cases e
    | scr => unfold rd at e; cases e
    | exn => unfold rd at e; cases e
  | succ k ih =>
    intro u v d r e
    cases u with
    | non => unfold rd at e; cases e; cases r; exact .non
    | bl b => unfold rd at e; cases e; cases r; exact .bl b
    | int b => unfold rd at e; cases e; cases r; exact .int b
    | str b => unfold rd at e; cases e; cases r; exact .str b
    | scr => unfold rd at e; cases e
    | exn => unfold rd at e; cases e
    | loc n =>
      unfold rd at e
      cases en : h[n]? with
      | none => rw [en] at e; cases e
      | some o =>
        rw [en] at e
        cases o with
        | lst xs =>
          simp only at e
          cases e2 : rdL (rd h k) xs with
          | none => rw [e2] at e; cases e
          | some ds =>
            rw [e2] at e
            cases e
            obtain ⟨a, vs, rfl, _, rv, ea⟩ := cs.lst en r
            exact .lst (SqL.of ea) (rdL_dp ih _ _ _ rv e2)
        | tup xs =>
          simp only at e
          cases e2 : rdL (rd h k) xs with
          | none => rw [e2] at e; cases e
          | some ds =>
            rw [e2] at e
            cases e
            obtain ⟨a, vs, o, rfl, _, rv, _, ea⟩ := cs.tup en r
            exact .tup (.inl (.inr ⟨o, ea⟩)) (rdL_dp ih _ _ _ rv e2)
        | tpl xs => cases e
        | ins c fs => cases e
        | exc c fs => cases e

/-! ### ints -/
def fI (c : Int → Int → Bool) (k : Int → Int → U) : F2 := fun x y h => match x, y with
  | .int i, .int j => if c i j then .ok (k i j) h else .stuck
  | _, _ => .stuck
def fLt : F2 := fI (fun _ _ => true) fun i j => .bl (decide (i < j))
def fLe : F2 := fI (fun _ _ => true) fun i j => .bl (decide (i ≤ j))
def fGt : F2 := fI (fun _ _ => true) fun i j => .bl (decide (j < i))
def fGe : F2 := fI (fun _ _ => true) fun i j => .bl (decide (j ≤ i))
def fSub : F2 := fI (fun _ _ => true) fun i j => .int (i - j)
def fMod : F2 := fI (fun _ j => decide (0 < j)) fun i j => .int (i % j)
def fDiv : F2 := fI (fun _ j => decide (0 < j ∧ j < 1073741824)) fun i j => .int (i / j)
def fPow : F2 := fI (fun i j => decide (0 ≤ j ∧ j ≤ 1000000 ∧ i.natAbs < 2 ^ 64)) fun i j => .int (i ^ j.toNat)
section
variable {g : Gc}
theorem s_fI {c : Int → Int → Bool} {C : Int → Int → Prop} {k : Int → Int → U} {kv : Int → Int → V} (hc : ∀ i j, c i j = true → C i j) (hk : ∀ ρ i j, Rl g ρ (k i j) (kv i j)) : S2 g (fI c k) (rI C kv) := fun E ρ x y vx vy h H Q rx ry cs p => by
  cases x with
  | int i =>
    cases y with
    | int j =>
      unfold fI at p
      simp only at p
      cases ec : c i j with
      | true => rw [ec, if_pos rfl] at p; exact ⟨i, j, rx, ry, hc i j ec, Post.here (rel := Rl g) p cs (hk ρ i j)⟩
      | false => rw [ec, if_neg Bool.false_ne_true] at p; exact p.elim
    | _ => exact p.elim
  | _ => cases y <;> exact p.elim
theorem s_fI0 {k : Int → Int → U} {kv : Int → Int → V} (hk : ∀ ρ i j, Rl g ρ (k i j) (kv i j)) : S2 g (fI (fun _ _ => true) k) (rI0 kv) := fun E ρ x y vx vy h H Q rx ry cs p => by
  cases x with
  | int i =>
    cases y with
    | int j =>
      unfold fI at p
      simp only [if_true] at p
      exact ⟨i, j, rx, ry, Post.here (rel := Rl g) p cs (hk ρ i j)⟩
    | _ => exact p.elim
  | _ => cases y <;> exact p.elim
theorem s_lt : S2 g fLt (rI0 fun i j => .bl (decide (i < j))) := s_fI0 fun _ _ _ => rfl
theorem s_le : S2 g fLe (rI0 fun i j => .bl (decide (i ≤ j))) := s_fI0 fun _ _ _ => rfl
theorem s_gt : S2 g fGt (rI0 fun i j => .bl (decide (j < i))) := s_fI0 fun _ _ _ => rfl
theorem s_ge : S2 g fGe (rI0 fun i j => .bl (decide (j ≤ i))) := s_fI0 fun _ _ _ => rfl
theorem s_sub : S2 g fSub (rI0 fun i j => .int (i - j)) := s_fI0 fun _ _ _ => rfl
theorem s_mod : S2 g fMod (rI (fun _ j => 0 < j) fun i j => .int (i % j)) := s_fI (fun _ _ => of_decide_eq_true) fun _ _ _ => rfl
theorem s_div : S2 g fDiv (rI CDiv fun i j => .int (i / j)) := s_fI (fun i j h => (of_decide_eq_true h : 0 < j ∧ j < 1073741824)) fun _ _ _ => rfl
theorem s_pow : S2 g fPow (rI CPow fun i j => .int (i ^ j.toNat)) := s_fI (fun i j h => (of_decide_eq_true h : 0 ≤ j ∧ j ≤ 1000000 ∧ i.natAbs < 2 ^ 64)) fun _ _ _ => rfl
end

/-! ### + and * by the kinds of both -/
theorem OpR.or {X : Cx} {f : Value → Value → Sem Value} {r r' : R2} (h : OpR X f r) (h' : OpR X f r') : OpR X f (fun x y H Q => r x y H Q ∨ r' x y H Q) := fun pins s σ H x y v u Q I rx ry q => q.elim (h pins s σ H x y v u Q I rx ry) (h' pins s σ H x y v u Q I rx ry)
def okLen (n : Nat) : Bool := decide (n ≤ 100000)
def fAdd : F2 := fun x y h => match x, y with
  | .int i, .int j => .ok (.int (i + j)) h
  | .str a, .str b => if okLen (a.length + b.length) then .ok (.str (a ++ b)) h else .stuck
  | .loc n, .loc m => match h[n]?, h[m]? with
    | some (.lst xs), some (.lst ys) => if okLen (xs.length + ys.length) then newO (.lst (xs ++ ys)) h else .stuck
    | some (.tup xs), some (.tup ys) => if okLen (xs.length + ys.length) then (match xs, ys with
      | [], _ => .ok (.loc m) h
      | _ :: _, [] => .ok (.loc n) h
      | x :: xs, y :: ys => newO (.tup ((x :: xs) ++ (y :: ys))) h) else .stuck
    | _, _ => .stuck
  | _, _ => .stuck
def rCatX (K : PySem.W.Frag) : R2 := fun x y H Q => ∃ a b xs ys, x = .ref a ∧ y = .ref b ∧ SqT K H a xs ∧ SqT K H b ys ∧ xs.length + ys.length ≤ sizeLine ∧
  (xs = [] → Q (.ref b) H) ∧ (xs ≠ [] → ys = [] → Q (.ref a) H) ∧ (xs ≠ [] → ys ≠ [] → ∀ p o, o.dict = none → H p = none → Q (.ref p) (upd H p (.frz o (.tup (xs ++ ys)))))
abbrev rAddAll (K : PySem.W.Frag) : R2 := fun x y H Q => rI0 (fun i j => .int (i + j)) x y H Q ∨ ((∃ i j, x = .str i ∧ y = .str j ∧ i.length + j.length ≤ sizeLine ∧ Q (.str (i ++ j)) H) ∨ (rCat x y H Q ∨ rCatX K x y H Q))
section
variable {X : Cx} {g : Gc}
theorem op_catX : OpR X (binaryOp .Add) (rCatX X.K) := by
  intro pins s σ H x y v u Q I rx ry h; obtain ⟨a, b, xs, ys, rfl, rfl, ha, hb, hz, q0, q1, q2⟩ := h
  cases rx
  cases ry
  obtain ⟨its, r1, p1, _⟩ := I.tuple ha; obtain ⟨its2, r2, p2, _⟩ := I.tuple hb
  by_cases hx : xs = []
  · subst hx
    cases r1; exact cat_tup0 p1 p2 ⟨.ref b, H, I, rfl, q0 rfl⟩
  · refine HT.cat_tup p1 p2 (fun z => hx (r1.nil_iff.mp z)) (fun z => ⟨.ref a, H, I, rfl, q1 hx (r2.nil_iff.mp z)⟩) (fun z => ?_) (by rw [← r1.length, ← r2.length]; exact hz)
    exact ⟨.ref s.heap.objs.size, _, tup_laid I (r1.append r2) (by rw [List.length_append]; exact hz), rfl, q2 hx (fun w => z (r2.nil_iff.mpr w)) _ _ rfl (I.hok.fresh (Nat.le_refl _))⟩
theorem o_add : OpR X (binaryOp .Add) (rAddAll X.K) := OpR.or op_add (OpR.or op_add_str (OpR.or op_cat op_catX))
theorem okLen_line {n : Nat} (h : okLen n = true) : n ≤ sizeLine := big_line (of_decide_eq_true h)
theorem s_add {K : PySem.W.Frag} : S2 g fAdd (rAddAll K) := fun E ρ x y vx vy h H Q rx ry cs p => by
  cases x with
  | int i =>
    cases y with
    | int j => exact .inl ⟨i, j, rx, ry, Post.here (rel := Rl g) p cs rfl⟩
    | _ => exact p.elim
  | str i =>
    cases y with
    | str j =>
      simp only [fAdd] at p
      cases eo : okLen (i.length + j.length) with
      | true => rw [eo, if_pos rfl] at p; exact .inr (.inl ⟨i, j, rx, ry, okLen_line eo, Post.here (rel := Rl g) p cs rfl⟩)
      | false => rw [eo, if_neg Bool.false_ne_true] at p; exact p.elim
    | _ => exact p.elim
  | loc n =>
    cases y with
    | loc m =>
      simp only [fAdd] at p
      cases en : h[n]? with
      | none => rw [en] at p; exact p.elim
      | some o =>
        cases em : h[m]? with
        | none => rw [en, em] at p; cases o <;> exact p.elim
        | some o2 =>
          rw [en, em] at p
          cases o with
          | lst xs =>
            cases o2 with
            | lst ys =>
              simp only at p
              obtain ⟨a, vs, rfl, ea, rv, ha⟩ := cs.lst en rx
              obtain ⟨b, ws, rfl, eb, rw', hb⟩ := cs.lst em ry
              cases eo : okLen (xs.length + ys.length) with
              | true =>
                rw [eo, if_pos rfl] at p
                refine .inr (.inr (.inl ⟨a, b, vs, ws, rfl, rfl, ha, hb, by rw [← Paired.length rv, ← Paired.length rw']; exact okLen_line eo, fun q hq => ?_⟩))
                exact Post.made p cs hq ⟨vs ++ ws, Rls.mono (pre_snoc _ _) (Paired.app rv rw'), upd_same⟩
              | false => rw [eo, if_neg Bool.false_ne_true] at p; exact p.elim
            | _ => exact p.elim
          | tup xs =>
            cases o2 with
            | tup ys =>
              simp only at p
              obtain ⟨a, vs, oa, rfl, ea, rv, _, ha⟩ := cs.tup en rx
              obtain ⟨b, ws, ob, rfl, eb, rw', _, hb⟩ := cs.tup em ry
              cases eo : okLen (xs.length + ys.length) with
              | true =>
                rw [eo, if_pos rfl] at p
                refine .inr (.inr (.inr ⟨a, b, vs, ws, rfl, rfl, .inl (.inr ⟨oa, ha⟩), .inl (.inr ⟨ob, hb⟩), by rw [← Paired.length rv, ← Paired.length rw']; exact okLen_line eo, fun e0 => ?_, fun e0 e1 => ?_, fun e0 e1 q o ho hq => ?_⟩))
                · subst e0
                  cases rv
                  exact Post.here (rel := Rl g) p cs ⟨b, eb, rfl⟩
                · subst e1
                  cases rw'
                  cases rv with
                  | nil => exact absurd rfl e0
                  | cons _ _ => exact Post.here (rel := Rl g) p cs ⟨a, ea, rfl⟩
                · cases rv with
                  | nil => exact absurd rfl e0
                  | cons r1 r2 =>
                    cases rw' with
                    | nil => exact absurd rfl e1
                    | cons r3 r4 => exact Post.made p cs hq ⟨_, o, Rls.mono (pre_snoc _ _) (Paired.app (.cons r1 r2) (.cons r3 r4)), ho, upd_same⟩
              | false => rw [eo, if_neg Bool.false_ne_true] at p; exact p.elim
            | _ => exact p.elim
          | _ => cases o2 <;> exact p.elim
    | _ => exact p.elim
  | _ => cases y <;> exact p.elim
def fMul : F2 := fun x y h => match x, y with
  | .int i, .int j => if decide ((-(2 ^ 64) < i ∧ i < 2 ^ 64) ∨ (-(2 ^ 64) < j ∧ j < 2 ^ 64)) then .ok (.int (i * j)) h else .stuck
  | .loc n, .int k => match h[n]? with
    | some (.lst xs) => if decide (-(2 ^ 63) ≤ k ∧ k < 2 ^ 63) && okLen (xs.length * k.toNat) then newO (.lst (List.replicate k.toNat xs).flatten) h else .stuck
    | _ => .stuck
  | _, _ => .stuck
abbrev rMulAll : R2 := fun x y H Q => rI CMul (fun i j => .int (i * j)) x y H Q ∨ rRep x y H Q
theorem o_mul : OpR X (binaryOp .Mult) rMulAll := OpR.or op_mul op_rep
theorem Rls.flat {ρ : List Addr} {us : List U} {vs : List V} (r : Rls g ρ us vs) : ∀ k : Nat, Rls g ρ (List.replicate k us).flatten (List.replicate k vs).flatten
  | 0 => .nil
  | k + 1 => by
    rw [List.replicate_succ, List.replicate_succ, List.flatten_cons, List.flatten_cons]; exact Paired.app r (Rls.flat r k)
theorem s_mul : S2 g fMul rMulAll := fun E ρ x y vx vy h H Q rx ry cs p => by
  cases x with
  | int i =>
    cases y with
    | int j =>
      simp only [fMul] at p
      by_cases hc : (-(2 ^ 64) < i ∧ i < 2 ^ 64) ∨ (-(2 ^ 64) < j ∧ j < 2 ^ 64)
      · rw [if_pos (decide_eq_true hc)] at p
        exact .inl ⟨i, j, rx, ry, hc, Post.here (rel := Rl g) p cs rfl⟩
      · rw [if_neg (by rw [decide_eq_true_eq]; exact hc)] at p
        exact p.elim
    | _ => exact p.elim
  | loc n =>
    cases y with
    | int k =>
      simp only [fMul] at p
      cases en : h[n]? with
      | none => rw [en] at p; exact p.elim
      | some o =>
        rw [en] at p
        cases o with
        | lst xs =>
          simp only at p
          obtain ⟨a, vs, rfl, ea, rv, ha⟩ := cs.lst en rx
          cases eo : (decide (-(2 ^ 63) ≤ k ∧ k < 2 ^ 63) && okLen (xs.length * k.toNat)) with
          | true =>
            rw [eo, if_pos rfl] at p
            rw [Bool.and_eq_true] at eo
            obtain ⟨h1, h2⟩ := of_decide_eq_true eo.1
            refine .inr ⟨a, k, vs, rfl, ry, ha, h1, h2, by rw [← Paired.length rv]; exact okLen_line eo.2, fun q hq => ?_⟩
            exact Post.made p cs hq ⟨_, Rls.mono (pre_snoc _ _) (Rls.flat rv _), upd_same⟩
          | false => rw [eo, if_neg Bool.false_ne_true] at p; exact p.elim
        | _ => exact p.elim
    | _ => exact p.elim
  | _ => cases y <;> exact p.elim

/-! ### == and !=, in and not in: data of any depth -/
def deep : Nat := 40
def fEqB (x y : U) (h : Mh) : Option Bool := match rd h deep x with
  | some d => match rd h deep y with
    | some e => if SeqAt.shaped d && SeqAt.shaped e then some (PyData.eqv d e) else none
    | none => none
  | none => none
def fEq : F2 := fun x y h => match fEqB x y h with
  | some b => .ok (.bl b) h
  | none => .stuck
def fNe : F2 := fun x y h => match fEqB x y h with
  | some b => .ok (.bl (!b)) h
  | none => .stuck
theorem fEqB_dp {K : PySem.W.Frag} {ρ : List Addr} {h : Mh} {H : Hp} (cs : Cs g ρ h H) {x y : U} {vx vy : V} {b : Bool} (rx : Rl g ρ x vx) (ry : Rl g ρ y vy) (e : fEqB x y h = some b) :
    ∃ d e', Dp K H vx d ∧ Dp K H vy e' ∧ SeqAt.shaped d = true ∧ SeqAt.shaped e' = true ∧ PyData.eqv d e' = b := by
  unfold fEqB at e
  cases e1 : rd h deep x with
  | none => rw [e1] at e; cases e
  | some d =>
    cases e2 : rd h deep y with
    | none => rw [e1, e2] at e; cases e
    | some d2 =>
      rw [e1, e2] at e
      simp only at e
      cases es : (SeqAt.shaped d && SeqAt.shaped d2) with
      | true =>
        rw [es, if_pos rfl] at e
        rw [Bool.and_eq_true] at es
        exact ⟨d, d2, rd_dp cs _ _ _ _ rx e1, rd_dp cs _ _ _ _ ry e2, es.1, es.2, Option.some.inj e⟩
      | false => rw [es, if_neg Bool.false_ne_true] at e; cases e
theorem s_eq {K : PySem.W.Frag} : S2 g fEq (rEqD K) := fun E ρ x y vx vy h H Q rx ry cs p => by
  unfold fEq at p
  cases e : fEqB x y h with
  | none => rw [e] at p; exact p.elim
  | some b =>
    rw [e] at p
    obtain ⟨d, d2, h1, h2, s1, s2, eb⟩ := fEqB_dp (K := K) cs rx ry e
    exact ⟨d, d2, h1, h2, s1, s2, by rw [eb]; exact Post.here (rel := Rl g) p cs rfl⟩
theorem s_ne {K : PySem.W.Frag} : S2 g fNe (rNeD K) := fun E ρ x y vx vy h H Q rx ry cs p => by
  unfold fNe at p
  cases e : fEqB x y h with
  | none => rw [e] at p; exact p.elim
  | some b =>
    rw [e] at p
    obtain ⟨d, d2, h1, h2, s1, s2, eb⟩ := fEqB_dp (K := K) cs rx ry e
    exact ⟨d, d2, h1, h2, s1, s2, by rw [eb]; exact Post.here (rel := Rl g) p cs rfl⟩
def fInB (x y : U) (h : Mh) : Option Bool := match rd h deep x with
  | some d => match rd h deep y with
    | some (.list ds) => if SeqAt.shaped d && SeqAt.shaped (.list ds) then some (ds.any fun z => PyData.eqv z d) else none
    | some (.tuple ds) => if SeqAt.shaped d && SeqAt.shaped (.tuple ds) then some (ds.any fun z => PyData.eqv z d) else none
    | _ => none
  | none => none
def fIn : F2 := fun x y h => match fInB x y h with
  | some b => .ok (.bl b) h
  | none => .stuck
def fNotIn : F2 := fun x y h => match fInB x y h with
  | some b => .ok (.bl (!b)) h
  | none => .stuck
def rInT (K : PySem.W.Frag) (ng : Bool) : R2 := fun x y H Q => ∃ d ds, Dp K H x d ∧ Dp K H y (.tuple ds) ∧ SeqAt.shaped d = true ∧ SeqAt.shaped (.tuple ds) = true ∧ Q (.bl (if ng then !(ds.any fun z => PyData.eqv z d) else ds.any fun z => PyData.eqv z d)) H
theorem o_inT (hu : X.A.units + 65 < cLine) : OpR X (compareOp .In) (rInT X.K false) := by
  intro pins s σ H x y v u Q I rx ry h; obtain ⟨d, ds, hd, he, sd, se, q⟩ := h
  obtain ⟨as, r1⟩ := Dp.reads I d x v hd rx; obtain ⟨bs, r2⟩ := Dp.reads I (.tuple ds) y u he ry
  exact SeqAt.in_tuple_reads r2 r1 (SeqAt.canLay_of_shaped se) (SeqAt.canLay_of_shaped sd) (room_in_shaped sd hu) ⟨.bl _, H, I, rfl, q⟩
theorem o_notInT (hu : X.A.units + 65 < cLine) : OpR X (compareOp .NotIn) (rInT X.K true) := by
  intro pins s σ H x y v u Q I rx ry h; obtain ⟨d, ds, hd, he, sd, se, q⟩ := h
  obtain ⟨as, r1⟩ := Dp.reads I d x v hd rx; obtain ⟨bs, r2⟩ := Dp.reads I (.tuple ds) y u he ry
  exact SeqAt.notIn_tuple_reads r2 r1 (SeqAt.canLay_of_shaped se) (SeqAt.canLay_of_shaped sd) (room_in_shaped sd hu) ⟨.bl _, H, I, rfl, q⟩
abbrev rInAll (K : PySem.W.Frag) : R2 := fun x y H Q => rInD K x y H Q ∨ rInT K false x y H Q
abbrev rNotInAll (K : PySem.W.Frag) : R2 := fun x y H Q => rNotInD K x y H Q ∨ rInT K true x y H Q
theorem o_in (hu : X.A.units + 65 < cLine) : OpR X (compareOp .In) (rInAll X.K) := OpR.or (op_inD hu) (o_inT hu)
theorem o_notin (hu : X.A.units + 65 < cLine) : OpR X (compareOp .NotIn) (rNotInAll X.K) := OpR.or (op_notInD hu) (o_notInT hu)
theorem fInB_dp {K : PySem.W.Frag} {ρ : List Addr} {h : Mh} {H : Hp} (cs : Cs g ρ h H) {x y : U} {vx vy : V} {b : Bool} (rx : Rl g ρ x vx) (ry : Rl g ρ y vy) (e : fInB x y h = some b) :
    ∃ d ds, Dp K H vx d ∧ SeqAt.shaped d = true ∧ (ds.any fun z => PyData.eqv z d) = b ∧ ((Dp K H vy (.list ds) ∧ SeqAt.shaped (.list ds) = true) ∨ (Dp K H vy (.tuple ds) ∧ SeqAt.shaped (.tuple ds) = true)) := by
  unfold fInB at e
  cases e1 : rd h deep x with
  | none => rw [e1] at e; cases e
  | some d =>
    cases e2 : rd h deep y with
    | none => rw [e1, e2] at e; cases e
    | some d2 =>
      rw [e1, e2] at e
      cases d2 with
      | list ds =>
        simp only at e
        cases es : (SeqAt.shaped d && SeqAt.shaped (.list ds)) with
        | true =>
          rw [es, if_pos rfl] at e
          rw [Bool.and_eq_true] at es
          exact ⟨d, ds, rd_dp cs _ _ _ _ rx e1, es.1, Option.some.inj e, .inl ⟨rd_dp cs _ _ _ _ ry e2, es.2⟩⟩
        | false => rw [es, if_neg Bool.false_ne_true] at e; cases e
      | tuple ds =>
        simp only at e
        cases es : (SeqAt.shaped d && SeqAt.shaped (.tuple ds)) with
        | true =>
          rw [es, if_pos rfl] at e
          rw [Bool.and_eq_true] at es
          exact ⟨d, ds, rd_dp cs _ _ _ _ rx e1, es.1, Option.some.inj e, .inr ⟨rd_dp cs _ _ _ _ ry e2, es.2⟩⟩
        | false => rw [es, if_neg Bool.false_ne_true] at e; cases e
      | _ => cases e
theorem s_in {K : PySem.W.Frag} : S2 g fIn (rInAll K) := fun E ρ x y vx vy h H Q rx ry cs p => by
  unfold fIn at p
  cases e : fInB x y h with
  | none => rw [e] at p; exact p.elim
  | some b =>
    rw [e] at p
    obtain ⟨d, ds, h1, s1, eb, k⟩ := fInB_dp (K := K) cs rx ry e
    have q : Q (.bl b) H := Post.here (rel := Rl g) p cs rfl
    rcases k with ⟨h2, s2⟩ | ⟨h2, s2⟩
    · exact .inl ⟨d, ds, h1, h2, s1, s2, by rw [eb]; exact q⟩
    · exact .inr ⟨d, ds, h1, h2, s1, s2, by rw [eb]; exact q⟩
theorem s_notin {K : PySem.W.Frag} : S2 g fNotIn (rNotInAll K) := fun E ρ x y vx vy h H Q rx ry cs p => by
  unfold fNotIn at p
  cases e : fInB x y h with
  | none => rw [e] at p; exact p.elim
  | some b =>
    rw [e] at p
    obtain ⟨d, ds, h1, s1, eb, k⟩ := fInB_dp (K := K) cs rx ry e
    have q : Q (.bl (!b)) H := Post.here (rel := Rl g) p cs rfl
    rcases k with ⟨h2, s2⟩ | ⟨h2, s2⟩
    · exact .inl ⟨d, ds, h1, h2, s1, s2, by rw [eb]; exact q⟩
    · exact .inr ⟨d, ds, h1, h2, s1, s2, by show Q (.bl (if true = true then !(ds.any fun z => PyData.eqv z d) else _)) H; rw [if_pos rfl, eb]; exact q⟩
end
end Vm

set_option Elab.async false
set_option linter.all false
set_option maxRecDepth 100000
set_option maxHeartbeats 4100000
namespace Vm
open L2 PyProof.Rows PySem PySem.Spec

theorem atI_rel {α β : Type} {F : α → β → Prop} {xs : List α} {ys : List β} {i : Int} {x : α} (r : Paired F xs ys) (e : atI xs i = some x) : ∃ y, atI ys i = some y ∧ F x y := by
  unfold atI at e ⊢
  rw [← Paired.length r]
  cases ei : ixN xs.length i with
  | none => rw [ei] at e; cases e
  | some j =>
    rw [ei] at e
    exact Paired.get r e

/-! ### subscripts -/
def fIx (g : List Int) : F2 := fun x y h => match y with
  | .int i => match x with
    | .loc n => match h[n]? with
      | some (.lst xs) => match atI xs i with
        | some u => .ok u h
        | none => .stuck
      | some (.tup xs) => match atI xs i with
        | some u => .ok u h
        | none => .stuck
      | some (.tpl xs) => match atI xs i with
        | some u => .ok u h
        | none => .stuck
      | _ => .stuck
    | .str z => if okLen z.length then (match atI z.cps.toList i with
      | some c => .ok (.str ⟨#[c]⟩) h
      | none => .stuck) else .stuck
    | .scr => match atI g i with
      | some k => .ok (.int k) h
      | none => .stuck
    | _ => .stuck
  | _ => .stuck
section
variable {X : Cx} {g : Gc}
theorem Cs.sq {ρ : List Addr} {h : Mh} {H : Hp} (c : Cs g ρ h H) : SqL g.K H g.sa (g.ns.map V.int) := by
  rcases c.scr with ⟨o, e⟩ | k
  · exact .inl (.inr ⟨o, e⟩)
  · exact .inr k
theorem s_ix : S2 g (fIx g.ns) (rIx g.K) := fun E ρ x y vx vy h H Q rx ry cs p => by
  cases y with
  | int i =>
    cases x with
    | loc n =>
      simp only [fIx] at p
      cases en : h[n]? with
      | none => rw [en] at p; exact p.elim
      | some o =>
        rw [en] at p
        cases o with
        | lst xs =>
          simp only at p
          obtain ⟨a, vs, rfl, ea, rv, ha⟩ := cs.lst en rx
          cases ei : atI xs i with
          | none => rw [ei] at p; exact p.elim
          | some u =>
            rw [ei] at p
            obtain ⟨v, ev, r⟩ := atI_rel rv ei
            exact .inl ⟨a, vs, i, v, rfl, ry, SqL.of ha, ev, Post.here (rel := Rl g) p cs r⟩
        | tup xs =>
          simp only at p
          obtain ⟨a, vs, o, rfl, ea, rv, _, ha⟩ := cs.tup en rx
          cases ei : atI xs i with
          | none => rw [ei] at p; exact p.elim
          | some u =>
            rw [ei] at p
            obtain ⟨v, ev, r⟩ := atI_rel rv ei
            exact .inr (.inl ⟨a, vs, i, v, rfl, ry, .inl (.inr ⟨o, ha⟩), ev, Post.here (rel := Rl g) p cs r⟩)
        | tpl xs =>
          simp only at p
          obtain ⟨a, vs, rfl, ea, rv, ha⟩ := cs.tpl en rx
          cases ei : atI xs i with
          | none => rw [ei] at p; exact p.elim
          | some u =>
            rw [ei] at p
            obtain ⟨v, ev, r⟩ := atI_rel rv ei
            exact .inr (.inl ⟨a, vs, i, v, rfl, ry, SqT.of ha, ev, Post.here (rel := Rl g) p cs r⟩)
        | ins c fs => exact p.elim
        | exc c fs => exact p.elim
    | str z =>
      simp only [fIx] at p
      cases eo : okLen z.length with
      | true =>
        rw [eo, if_pos rfl] at p
        cases ei : atI z.cps.toList i with
        | none => rw [ei] at p; exact p.elim
        | some u =>
          rw [ei] at p
          exact .inr (.inr ⟨z, i, u, rx, ry, okLen_line eo, ei, Post.here (rel := Rl g) p cs rfl⟩)
      | false => rw [eo, if_neg Bool.false_ne_true] at p; exact p.elim
    | scr =>
      simp only [fIx] at p
      cases ei : atI g.ns i with
      | none => rw [ei] at p; exact p.elim
      | some k =>
        rw [ei] at p
        have e2 : atI (g.ns.map V.int) i = some (.int k) := by
          unfold atI at ei ⊢
          rw [List.length_map]
          cases e3 : ixN g.ns.length i with
          | none => rw [e3] at ei; cases ei
          | some j =>
            rw [e3] at ei
            show (g.ns.map V.int)[j]? = some (.int k)
            rw [List.getElem?_map, show g.ns[j]? = some k from ei]
            rfl
        exact .inl ⟨g.sa, _, i, .int k, rx, ry, cs.sq, e2, Post.here (rel := Rl g) p cs rfl⟩
    | _ => exact p.elim
  | _ => exact p.elim
theorem o_ix (hK : X.K = g.K) : IxR X (rIx g.K) := by
  rw [← hK]
  exact ix_seq

/-! ### slices -/
abbrev Mo := Sl → Mh → R (Option Int)
abbrev relO : List Addr → Option Int → Option Int → Prop := fun _ a b => a = b
def oN : Mo := fun _ h => .ok none h
def oS (a : Me) : Mo := fun s h => (a s h).bind fun u h1 => match u with
  | .int i => .ok (some i) h1
  | _ => .stuck
def cutU {α : Type} (xs : List α) (lo hi : Option Int) : List α := (xs.drop (HT.sIx xs.length 0 lo)).take (HT.sIx xs.length xs.length hi - HT.sIx xs.length 0 lo)
def fSl (x : U) (lo hi : Option Int) (h : Mh) : R U := match x with
  | .loc n => match h[n]? with
    | some (.lst xs) => newO (.lst (cutU xs lo hi)) h
    | some (.tup xs) => if HT.sIx xs.length 0 lo = 0 ∧ HT.sIx xs.length xs.length hi = xs.length then .ok (.loc n) h else newO (.tup (cutU xs lo hi)) h
    | _ => .stuck
  | _ => .stuck
def mSl (a : Me) (l u : Mo) : Me := fun s h => (a s h).bind fun x h1 => (l s h1).bind fun lo h2 => (u s h2).bind fun hi h3 => fSl x lo hi h3
def TO' (g : Gc) (W : WX) (m : Mo) : TO := fun σ H Q => At g relO m (WE W σ) σ H Q
variable {W : WX} {a b c e : Expr} {A B Cc : Me} {pos p2 : Pos} {lo hi : Option Expr} {l u : Mo}
theorem PO.im {e : Option Expr} {t t' : TO} (h : PO X e t) (i : ∀ σ H Q, t' σ H Q → t σ H Q) : PO X e t' := ⟨fun pins s σ H Q I q => h.run pins s σ H Q I (i σ H Q q)⟩
theorem o_none : PO X none (TO' g W oN) := PO.im po_none fun σ H Q ⟨ρ, s, h, hs, cs, p⟩ => Post.here (rel := relO) p cs rfl
theorem o_some (h : PE X e (T g W A)) : PO X (some e) (TO' g W (oS A)) := by
  refine PO.im (po_some h) fun σ H Q q => At.seq (rel := Rl g) q fun ρ1 x s h1 v H1 hs1 c1 r1 p1 => ?_
  cases x with
  | int i => exact ⟨i, r1, Post.here (rel := relO) p1 c1 rfl⟩
  | _ => exact p1.elim
def rSlX (K : PySem.W.Frag) : V → Option Int → Option Int → Hp → VK → Prop := fun x lo hi H Q => ∃ a xs, x = .ref a ∧ SqT K H a xs ∧
  (HT.sIx xs.length 0 lo = 0 ∧ HT.sIx xs.length xs.length hi = xs.length → Q (.ref a) H) ∧ (¬ (HT.sIx xs.length 0 lo = 0 ∧ HT.sIx xs.length xs.length hi = xs.length) → ∀ p o, o.dict = none → H p = none → Q (.ref p) (upd H p (.frz o (.tup (cutV xs lo hi)))))
theorem sl_tupX : SlR X (rSlX X.K) := by
  intro pins s σ H x v vl vu lo hi sl Q I rx hs pl pu h; obtain ⟨a, xs, rfl, hx, q1, q2⟩ := h
  by_cases hw : HT.sIx xs.length 0 lo = 0 ∧ HT.sIx xs.length xs.length hi = xs.length; · exact sl_tupA pins s σ H _ v vl vu lo hi sl Q I rx hs pl pu ⟨a, xs, rfl, hx, q1, fun n => absurd hw n⟩
  · cases rx
    obtain ⟨its, r, ht, hz⟩ := I.tuple hx; have hlen : its.toArray.size = xs.length := by rw [List.size_toArray]; exact r.length.symm
    refine ⟨"tuple", _, PyProof.Rows.slot_tuple_getitem.lookup, ht.typeIs, ?_⟩; refine HT.getItem_tuple_cut ht hs pl pu (by rw [hlen]; exact hw) ?_ (by rw [hlen]; exact hz)
    rw [hlen]
    exact ⟨.ref s.heap.objs.size, _, tup_laid I ((r.drop (HT.sIx xs.length 0 lo)).take (HT.sIx xs.length xs.length hi - HT.sIx xs.length 0 lo)) (Nat.le_trans (cutV_length xs lo hi) hz), rfl, q2 hw _ _ rfl (I.hok.fresh (Nat.le_refl _))⟩
abbrev rSlAll (K : PySem.W.Frag) : V → Option Int → Option Int → Hp → VK → Prop := fun x lo hi H Q => rSlL K x lo hi H Q ∨ rSlX K x lo hi H Q
theorem sl_all : SlR X (rSlAll X.K) := SlR.or sl_list sl_tupX
theorem cut_rel {ρ : List Addr} {xs : List U} {vs : List V} {lo hi : Option Int} (r : Rls g ρ xs vs) : Rls g ρ (cutU xs lo hi) (cutV vs lo hi) := by
  unfold cutU cutV
  rw [← Paired.length r]
  exact Paired.takeP _ (Paired.dropP _ r)
theorem e_slice (he : PE X a (T g W A)) (hl : PO X lo (TO' g W l)) (hu : PO X hi (TO' g W u)) : PE X (.Subscript a (.Slice lo hi none p2) pos) (T g W (mSl A l u)) := by
  refine PE.im (pe_slice sl_all he hl hu) fun σ H Q q => At.seq (rel := Rl g) q fun ρ1 x s h1 v H1 hs1 c1 r1 p1 => ?_
  refine ⟨ρ1, s, h1, hs1, c1, (Post.cut (rel := relO) p1).imp fun o1 H2 ⟨ρ2, o1', h2, e2, c2, r2, p2⟩ => ?_⟩
  cases r2
  refine ⟨ρ2, s, h2, Rsl.mono e2 hs1, c2, (Post.cut (rel := relO) p2).imp fun o2 H3 ⟨ρ3, o2', h3, e3, c3, r3, p3⟩ => ?_⟩
  cases r3
  have r1 : Rl g ρ3 x v := Rl.mono (e2.trans e3) r1
  cases x with
  | loc n =>
    simp only [fSl] at p3
    cases en : h3[n]? with
    | none => rw [en] at p3; exact p3.elim
    | some o =>
      rw [en] at p3
      cases o with
      | lst xs =>
        simp only at p3
        obtain ⟨ad, vs, rfl, ea, rv, ha⟩ := c3.lst en r1
        exact .inl ⟨ad, vs, rfl, SqL.of ha, fun p hp => Post.made p3 c3 hp ⟨_, Rls.mono (pre_snoc _ _) (cut_rel rv), upd_same⟩⟩
      | tup xs =>
        simp only at p3
        obtain ⟨ad, vs, o, rfl, ea, rv, _, ha⟩ := c3.tup en r1
        refine .inr ⟨ad, vs, rfl, .inl (.inr ⟨o, ha⟩), ?_⟩
        rw [← Paired.length rv]
        by_cases hw : HT.sIx xs.length 0 o1 = 0 ∧ HT.sIx xs.length xs.length o2 = xs.length
        · rw [if_pos hw] at p3
          exact ⟨fun _ => Post.here (rel := Rl g) p3 c3 ⟨ad, ea, rfl⟩, fun n => absurd hw n⟩
        · rw [if_neg hw] at p3
          exact ⟨fun n => absurd n hw, fun _ p o ho hp => Post.made p3 c3 hp ⟨_, o, Rls.mono (pre_snoc _ _) (cut_rel rv), ho, upd_same⟩⟩
      | _ => exact p3.elim
  | _ => exact p3.elim

/-! ### built-in functions by values -/
def fLen (ns : List Int) : List U → Mh → R U := fun us h => match us with
  | [.loc n] => match h[n]? with
    | some (.lst xs) => .ok (.int xs.length) h
    | some (.tup xs) => .ok (.int xs.length) h
    | some (.tpl xs) => .ok (.int xs.length) h
    | _ => .stuck
  | [.str z] => if okLen z.length then .ok (.int z.length) h else .stuck
  | [.scr] => .ok (.int ns.length) h
  | _ => .stuck
theorem CallR.or {f : Value} {r r' : List V → Hp → VK → Prop} (h : CallR X f r) (h' : CallR X f r') : CallR X f (fun xs H Q => r xs H Q ∨ r' xs H Q) := fun pins s σ H xs us Q I rx q => q.elim (h pins s σ H xs us Q I rx) (h' pins s σ H xs us Q I rx)
def rLen (K : PySem.W.Frag) : List V → Hp → VK → Prop := fun xs H Q => (∃ p ys, xs = [.ref p] ∧ (SqL K H p ys ∨ SqT K H p ys) ∧ Q (.int ys.length) H) ∨ (∃ z, xs = [.str z] ∧ z.length ≤ sizeLine ∧ Q (.int z.length) H)
theorem k_len (hK : X.K = g.K) : CallR X (.builtin "len") (rLen g.K) := by
  rw [← hK]
  exact CallR.or call_len_seq call_len_str
theorem one_of {ρ : List Addr} {x : U} {vs : List V} (r : Rls g ρ [x] vs) : ∃ v, vs = [v] ∧ Rl g ρ x v := by
  cases r with
  | cons r1 r2 =>
    cases r2
    exact ⟨_, rfl, r1⟩
theorem two_of {ρ : List Addr} {x y : U} {vs : List V} (r : Rls g ρ [x, y] vs) : ∃ v w, vs = [v, w] ∧ Rl g ρ x v ∧ Rl g ρ y w := by
  cases r with
  | cons r1 r2 =>
    obtain ⟨w, rfl, r3⟩ := one_of r2
    exact ⟨_, w, rfl, r1, r3⟩
theorem s_len : SL g (fLen g.ns) (rLen g.K) := fun E ρ xs vs h H Q r cs p => by
  unfold fLen at p
  split at p
  · rename_i n
    obtain ⟨v, rfl, r1⟩ := one_of r
    split at p
    · rename_i xs en
      obtain ⟨a, vs, rfl, ea, rv, ha⟩ := cs.lst en r1
      exact .inl ⟨a, vs, rfl, .inl (SqL.of ha), by rw [← Paired.length rv]; exact Post.here (rel := Rl g) p cs rfl⟩
    · rename_i xs en
      obtain ⟨a, vs, o, rfl, ea, rv, _, ha⟩ := cs.tup en r1
      exact .inl ⟨a, vs, rfl, .inr (.inl (.inr ⟨o, ha⟩)), by rw [← Paired.length rv]; exact Post.here (rel := Rl g) p cs rfl⟩
    · rename_i xs en
      obtain ⟨a, vs, rfl, ea, rv, ha⟩ := cs.tpl en r1
      exact .inl ⟨a, vs, rfl, .inr (SqT.of ha), by rw [← Paired.length rv]; exact Post.here (rel := Rl g) p cs rfl⟩
    · exact p.elim
  · rename_i z
    obtain ⟨v, rfl, r1⟩ := one_of r
    cases eo : okLen z.length with
    | true =>
      rw [eo, if_pos rfl] at p
      exact .inr ⟨z, by rw [r1], okLen_line eo, Post.here (rel := Rl g) p cs rfl⟩
    | false => rw [eo, if_neg Bool.false_ne_true] at p; exact p.elim
  · obtain ⟨v, rfl, r1⟩ := one_of r
    exact .inl ⟨g.sa, g.ns.map V.int, by rw [r1], .inl cs.sq, by rw [List.length_map]; exact Post.here (rel := Rl g) p cs rfl⟩
  · exact p.elim
def fAbs : List U → Mh → R U := fun us h => match us with
  | [.int i] => .ok (.int (if i < 0 then -i else i)) h
  | _ => .stuck
theorem s_abs : SL g fAbs (fun xs H Q => ∃ i, xs = [.int i] ∧ Q (.int (if i < 0 then -i else i)) H) := fun E ρ xs vs h H Q r cs p => by
  unfold fAbs at p
  split at p
  · obtain ⟨v, rfl, r1⟩ := one_of r
    exact ⟨_, by rw [r1], Post.here (rel := Rl g) p cs rfl⟩
  · exact p.elim
def fMax2 : List U → Mh → R U := fun us h => match us with
  | [.int i, .int j] => .ok (.int (if j > i then j else i)) h
  | _ => .stuck
theorem s_max2 : SL g fMax2 (fun xs H Q => ∃ i j, xs = [.int i, .int j] ∧ Q (.int (if j > i then j else i)) H) := fun E ρ xs vs h H Q r cs p => by
  unfold fMax2 at p
  split at p
  · obtain ⟨v, w, rfl, r1, r2⟩ := two_of r
    exact ⟨_, _, by rw [r1, r2], Post.here (rel := Rl g) p cs rfl⟩
  · exact p.elim
def fMin2 : List U → Mh → R U := fun us h => match us with
  | [.int i, .int j] => .ok (.int (if j < i then j else i)) h
  | _ => .stuck
theorem s_min2 : SL g fMin2 (fun xs H Q => ∃ i j, xs = [.int i, .int j] ∧ Q (.int (if j < i then j else i)) H) := fun E ρ xs vs h H Q r cs p => by
  unfold fMin2 at p
  split at p
  · obtain ⟨v, w, rfl, r1, r2⟩ := two_of r
    exact ⟨_, _, by rw [r1, r2], Post.here (rel := Rl g) p cs rfl⟩
  · exact p.elim
def fInt : List U → Mh → R U := fun us h => match us with
  | [.int i] => .ok (.int i) h
  | [.bl k] => .ok (.int (if k then 1 else 0)) h
  | _ => .stuck
theorem s_int : SL g fInt (fun xs H Q => (∃ i, xs = [.int i] ∧ Q (.int i) H) ∨ ∃ k, xs = [.bl k] ∧ Q (.int (if k then 1 else 0)) H) := fun E ρ xs vs h H Q r cs p => by
  unfold fInt at p
  split at p
  · obtain ⟨v, rfl, r1⟩ := one_of r
    exact .inl ⟨_, by rw [r1], Post.here (rel := Rl g) p cs rfl⟩
  · obtain ⟨v, rfl, r1⟩ := one_of r
    exact .inr ⟨_, by rw [r1], Post.here (rel := Rl g) p cs rfl⟩
  · exact p.elim
/-- the bools of a list -/
def blsOf : List U → Option (List Bool)
  | [] => some []
  | .bl b :: r => match blsOf r with
    | some bs => some (b :: bs)
    | none => none
  | _ => none
theorem bls_rel {ρ : List Addr} : ∀ {xs : List U} {vs : List V} {bs : List Bool}, Rls g ρ xs vs → blsOf xs = some bs → vs = bs.map V.bl
  | [], _, _, .nil, e => by
    unfold blsOf at e
    cases e
    rfl
  | x :: xs, _, bs, .cons r rs, e => by
    cases x with
    | bl b =>
      unfold blsOf at e
      cases e1 : blsOf xs with
      | none => rw [e1] at e; cases e
      | some bt =>
        rw [e1] at e
        cases e
        rw [bls_rel rs e1, r]
        rfl
    | _ => unfold blsOf at e; cases e
def fAll : List U → Mh → R U := fun us h => match us with
  | [.loc n] => match h[n]? with
    | some (.lst xs) => match blsOf xs with
      | some bs => .ok (.bl (bs.all id)) h
      | none => .stuck
    | _ => .stuck
  | _ => .stuck
def fAny : List U → Mh → R U := fun us h => match us with
  | [.loc n] => match h[n]? with
    | some (.lst xs) => match blsOf xs with
      | some bs => .ok (.bl (bs.any id)) h
      | none => .stuck
    | _ => .stuck
  | _ => .stuck
theorem s_all {K : PySem.W.Frag} : SL g fAll (rAll K) := fun E ρ xs vs h H Q r cs p => by
  unfold fAll at p
  split at p
  · obtain ⟨v, rfl, r1⟩ := one_of r
    split at p
    · rename_i xs en
      obtain ⟨a, vs, rfl, ea, rv, ha⟩ := cs.lst en r1
      split at p
      · rename_i bs eb
        have := bls_rel rv eb
        subst this
        exact ⟨a, bs, rfl, SqL.of ha, Post.here (rel := Rl g) p cs rfl⟩
      · exact p.elim
    · exact p.elim
  · exact p.elim
theorem s_any {K : PySem.W.Frag} : SL g fAny (rAny K) := fun E ρ xs vs h H Q r cs p => by
  unfold fAny at p
  split at p
  · obtain ⟨v, rfl, r1⟩ := one_of r
    split at p
    · rename_i xs en
      obtain ⟨a, vs, rfl, ea, rv, ha⟩ := cs.lst en r1
      split at p
      · rename_i bs eb
        have := bls_rel rv eb
        subst this
        exact ⟨a, bs, rfl, SqL.of ha, Post.here (rel := Rl g) p cs rfl⟩
      · exact p.elim
    · exact p.elim
  · exact p.elim
/-- tuple(x), list(x) of a list or a tuple -/
def fTup : List U → Mh → R U := fun us h => match us with
  | [.loc n] => match h[n]? with
    | some (.lst xs) => newO (.tup xs) h
    | some (.tup _) => .ok (.loc n) h
    | _ => .stuck
  | _ => .stuck
def fLst : List U → Mh → R U := fun us h => match us with
  | [.loc n] => match h[n]? with
    | some (.lst xs) => newO (.lst xs) h
    | some (.tup xs) => newO (.lst xs) h
    | _ => .stuck
  | _ => .stuck
def rTupX (K : PySem.W.Frag) : List V → Hp → VK → Prop := fun xs H Q => ∃ p ys, xs = [.ref p] ∧ ((SqL K H p ys ∧ ∀ l o, o.dict = none → H l = none → Q (.ref l) (upd H l (.frz o (.tup ys)))) ∨ (SqT K H p ys ∧ Q (.ref p) H))
theorem call_tupX : CallR X (.type "tuple") (rTupX X.K) := by
  intro pins s σ H xs us Q I r h; obtain ⟨p, ys, rfl, h⟩ := h
  obtain ⟨u, rfl, rx⟩ := vals1 r; cases rx; rcases h with ⟨hq, q⟩ | ⟨hq, q⟩
  · obtain ⟨its, r', pl, hz⟩ := I.list hq; have hlen := r'.length
    refine call_tuple_list pl.isList (fun h' kp => ?_) (by simp only [List.size_toArray] <;> omega); have I1 : Inv X pins σ H { s with heap := h' } := I.kept (t' := s.toks) kp
    exact ⟨.ref h'.objs.size, _, tup_laid I1 r' hz, rfl, q _ _ rfl (I1.hok.fresh (Nat.le_refl _))⟩
  · obtain ⟨its, r', pl, hz⟩ := I.tuple hq; exact call_tuple_same pl ⟨.ref p, H, I, rfl, q⟩
theorem s_tup {K : PySem.W.Frag} : SL g fTup (rTupX K) := fun E ρ xs vs h H Q r cs p => by
  unfold fTup at p
  split at p
  · obtain ⟨v, rfl, r1⟩ := one_of r
    split at p
    · rename_i xs en
      obtain ⟨a, vs, rfl, ea, rv, ha⟩ := cs.lst en r1
      exact ⟨a, vs, rfl, .inl ⟨SqL.of ha, fun l o ho hl => Post.made p cs hl ⟨vs, o, Rls.mono (pre_snoc _ _) rv, ho, upd_same⟩⟩⟩
    · rename_i xs en
      obtain ⟨a, vs, o, rfl, ea, rv, _, ha⟩ := cs.tup en r1
      exact ⟨a, vs, rfl, .inr ⟨.inl (.inr ⟨o, ha⟩), Post.here (rel := Rl g) p cs ⟨a, ea, rfl⟩⟩⟩
    · exact p.elim
  · exact p.elim
def rLst (K : PySem.W.Frag) : List V → Hp → VK → Prop := fun xs H Q => ∃ p ys, xs = [.ref p] ∧ (SqL K H p ys ∨ SqT K H p ys) ∧ ∀ l, H l = none → Q (.ref l) (upd H l (.lst ys))
theorem k_lst : CallR X (.type "list") (rLst X.K) := call_list_of
theorem s_lst {K : PySem.W.Frag} : SL g fLst (rLst K) := fun E ρ xs vs h H Q r cs p => by
  unfold fLst at p
  split at p
  · obtain ⟨v, rfl, r1⟩ := one_of r
    split at p
    · rename_i xs en
      obtain ⟨a, vs, rfl, ea, rv, ha⟩ := cs.lst en r1
      exact ⟨a, vs, rfl, .inl (SqL.of ha), fun l hl => Post.made p cs hl ⟨vs, Rls.mono (pre_snoc _ _) rv, upd_same⟩⟩
    · rename_i xs en
      obtain ⟨a, vs, o, rfl, ea, rv, _, ha⟩ := cs.tup en r1
      exact ⟨a, vs, rfl, .inr (.inl (.inr ⟨o, ha⟩)), fun l hl => Post.made p cs hl ⟨vs, Rls.mono (pre_snoc _ _) rv, upd_same⟩⟩
    · exact p.elim
  · exact p.elim

/-! ### isinstance of a built-in class -/
def tyU (h : Mh) : U → Option String
  | .non => some "NoneType"
  | .bl _ => some "bool"
  | .int _ => some "int"
  | .str _ => some "str"
  | .loc n => match h[n]? with
    | some (.lst _) => some "list" | some (.tup _) => some "tuple"
    | some (.tpl _) => some "tuple"
    | _ => none
  | .scr => none
  | .exn => none
def fIsi (T : String) (u : U) (h : Mh) : R U := match tyU h u with
  | some t => match kitB t T with
    | some b => .ok (.bl b) h
    | none => .stuck
  | none => .stuck
theorem tyU_ok {K : PySem.W.Frag} {ρ : List Addr} {h : Mh} {H : Hp} (cs : Cs g ρ h H) {u : U} {v : V} {t : String} (r : Rl g ρ u v) (e : tyU h u = some t) : TyX K H v (.type t) := by
  cases u with
  | non => cases e; cases r; exact .base .non
  | bl b => cases e; cases r; exact .base (.bl b)
  | int b => cases e; cases r; exact .base (.int b)
  | str b => cases e; cases r; exact .base (.str b)
  | scr => cases e
  | exn => cases e
  | loc n =>
    simp only [tyU] at e
    split at e
    · rename_i xs en
      cases e
      obtain ⟨a, vs, rfl, ea, rv, ha⟩ := cs.lst en r
      exact .base (.lst ha)
    · rename_i xs en
      cases e
      obtain ⟨a, vs, o, rfl, ea, rv, _, ha⟩ := cs.tup en r
      exact .fTuple ha
    · rename_i xs en
      cases e
      obtain ⟨a, vs, rfl, ea, rv, ha⟩ := cs.tpl en r
      exact .base (.tup ha)
    · cases e
/-- isinstance(e, T) -/
theorem e_isi {T : String} {p pc : Pos} {x : Str} (hg : Gl X "isinstance") (hm : X.mg "isinstance" = none) (hgT : Gl X x) (hmT : X.mg x = none) (hv : bootBuiltins x = some (.type T)) (he : PE X e (Vm.T g W A))
    (hn : x ≠ "__name__" := by decide) (hdb : (x == ("__debug__" : Str)) = false := by decide)
    (hst : starEach [e, .Name x pc] X.env = (false, eval e X.env) :: starEach [.Name x pc] X.env := by rfl) (hst2 : starEach [Expr.Name x pc] X.env = (false, eval (.Name x pc) X.env) :: starEach [] X.env := by rfl)
    (hpl : (backTo pos (starEach [Expr.Name x pc] X.env)).any (·.1) = false := by rfl) :
    PE X (.Call (.Name "isinstance" p) [e, .Name x pc] [] pos) (Vm.T g W (m1 (fIsi T) A)) := by
  have hc : PE X (.Name x pc) (tC (.ty T)) := pe_bltn hgT hmT hv rfl hn hdb
  refine PE.im (pe_callB call_isi hg hm (by decide +kernel) (pa_cons he (pa_cons hc pa_nil hst2) hst) (by decide) (by decide) hst hpl) fun σ H Q q => ?_
  refine At.seq (rel := Rl g) q fun ρ1 u s h1 v H1 hs1 c1 r1 p1 => ?_
  unfold fIsi at p1
  cases e1 : tyU h1 u with
  | none => rw [e1] at p1; exact p1.elim
  | some t =>
    rw [e1] at p1
    simp only at p1
    cases e2 : kitB t T with
    | none => rw [e2] at p1; exact p1.elim
    | some k =>
      rw [e2] at p1
      exact ⟨v, .ty T, .type t, .type T, k, rfl, .ty T, tyU_ok c1 r1 e1, kit_ty e2, Post.here (rel := Rl g) p1 c1 rfl⟩
end
end Vm

set_option Elab.async false
set_option linter.all false
set_option maxRecDepth 100000
set_option maxHeartbeats 4100000
namespace Vm
open L2 PyProof.Rows PySem PySem.Spec
/-! ### methods of built-in types -/
abbrev Fm := U → List U → Mh → R U
def mMt (f : Fm) (o : Me) (a : Ml) : Me := fun s h => (o s h).bind fun x h1 => (a s h1).bind fun xs h2 => f x xs h2
def SMt (g : Gc) (K : PySem.W.Frag) (T : String) (f : Fm) (r : V → List V → Hp → VK → Prop) : Prop :=
  ∀ E ρ x xs vx vs h H Q, Rl g ρ x vx → Rls g ρ xs vs → Cs g ρ h H → Post g (Rl g) ρ (f x xs h) Q E → r vx vs H Q
/-- the receiver's kind, ahead of the arguments -/
def isLst (u : U) (h : Mh) : Bool := match u with
  | .loc n => match h[n]? with
    | some (.lst _) => true
    | _ => false
  | _ => false
def mMtL (f : Fm) (o : Me) (a : Ml) : Me := fun s h => (o s h).bind fun x h1 => if isLst x h1 then ((a s h1).bind fun xs h2 => f x xs h2) else .stuck
section
variable {X : Cx} {g : Gc} {W : WX} {A : Me} {L : Ml} {o e : Expr} {es : List Expr} {name : Str} {apos cpos : Pos} {id : String} {f : Fm} {r : V → List V → Hp → VK → Prop}
theorem e_mtL (slot : Slot "list" name id) (hty : typeOf (.builtin id) = pure (.type "method_descriptor")) (hm : MtR X id r) (hs : SMt g X.K "list" f r) (ho : PE X o (T g W A)) (ha : PA X (e :: es) (TL g W L)) (hbase : attributeBase o name X.env (eval o X.env) = eval o X.env := by rfl) (hfew : ((backTo cpos (starEach (e :: es) X.env)).all (fun x => !x.1) && (backToKw cpos (keywordEach [] X.env)).all (fun x => x.1.isSome) && decide ((e :: es).length + ([] : List Keyword).length + (if ([] : List Keyword).isEmpty then 0 else 1) < 30)) = true := by rfl)
    (hline : (apos.endLine == cpos.line) = true := by rfl) (hss : starEach (e :: es) X.env = (false, eval e X.env) :: starEach es X.env := by rfl) (hplain : (backTo cpos (starEach es X.env)).any (·.1) = false := by rfl) :
    PE X (.Call (.Attribute o name apos) (e :: es) [] cpos) (T g W (mMtL f A L)) := by
  refine PE.im (pe_bm PySem.F.plainAttrs_list slot hty hm ho ha hbase hfew hline hss hplain) fun σ H Q q => At.seq (rel := Rl g) q fun ρ1 x s h1 v H1 hs1 c1 r1 p1 => ?_
  cases el : isLst x h1 with
  | false => rw [el, if_neg Bool.false_ne_true] at p1; exact p1.elim
  | true =>
    rw [el, if_pos rfl] at p1
    unfold isLst at el
    split at el
    · rename_i n
      split at el
      · rename_i xs en
        obtain ⟨a, vs, rfl, ea, rv, ha⟩ := c1.lst en r1
        refine ⟨.inl ⟨rfl, vs, SqL.of ha⟩, ρ1, s, h1, hs1, c1, (Post.cut (rel := Rls g) p1).imp fun ws H2 ⟨ρ2, us, h2, e2, c2, r2, p2⟩ => ?_⟩
        exact hs _ ρ2 (.loc n) us _ ws h2 H2 Q (Rl.mono e2 r1) r2 c2 p2
      · cases el
    · cases el
def fAppend : Fm := fun x us h => match x, us with
  | .loc n, [u] => match h[n]? with
    | some (.lst xs) => if okLen xs.length then .ok .non (h.set n (.lst (xs ++ [u]))) else .stuck
    | _ => .stuck
  | _, _ => .stuck
theorem s_append {K : PySem.W.Frag} : SMt g K "list" fAppend rAppend := fun E ρ x xs vx vs h H Q rx rs cs p => by
  unfold fAppend at p
  split at p
  · rename_i n u
    obtain ⟨v, rfl, r1⟩ := one_of rs
    split at p
    · rename_i xs en
      obtain ⟨a, vs, rfl, ea, rv, ha⟩ := cs.lst en rx
      cases eo : okLen xs.length with
      | true =>
        rw [eo, if_pos rfl] at p
        refine ⟨a, vs, v, rfl, rfl, ha, ?_, ?_⟩
        · rw [← Paired.length rv]
          have := of_decide_eq_true eo
          rw [sizeLine_eq]
          omega
        · exact Post.here (rel := Rl g) p (cs.put (o := .lst (xs ++ [u])) ea (nfL ha) ⟨vs ++ [v], Paired.app rv (.cons r1 .nil), upd_same⟩) rfl
      | false => rw [eo, if_neg Bool.false_ne_true] at p; exact p.elim
    · exact p.elim
  · exact p.elim
theorem mtR_append : MtR X "list.append" rAppend := mt_append
theorem e_append (ho : PE X o (T g W A)) (ha : PA X (e :: es) (TL g W L))
    (hbase : attributeBase o "append" X.env (eval o X.env) = eval o X.env := by rfl) (hfew : ((backTo cpos (starEach (e :: es) X.env)).all (fun x => !x.1) && (backToKw cpos (keywordEach [] X.env)).all (fun x => x.1.isSome) && decide ((e :: es).length + ([] : List Keyword).length + (if ([] : List Keyword).isEmpty then 0 else 1) < 30)) = true := by rfl)
    (hline : (apos.endLine == cpos.line) = true := by rfl) (hss : starEach (e :: es) X.env = (false, eval e X.env) :: starEach es X.env := by rfl) (hplain : (backTo cpos (starEach es X.env)).any (·.1) = false := by rfl) :
    PE X (.Call (.Attribute o "append" apos) (e :: es) [] cpos) (T g W (mMtL fAppend A L)) := e_mtL PySem.F.slot_list_append PySem.F.type_list_append mtR_append s_append ho ha hbase hfew hline hss hplain
/-- the first place of an equal one -/
def firstAt (d : PyData) : List PyData → Nat → Option Nat
  | [], _ => none
  | z :: zs, j => if PyData.eqv z d then some j else firstAt d zs (j + 1)
theorem firstAt_ok {d : PyData} : ∀ {zs : List PyData} {k j : Nat}, firstAt d zs k = some j → k ≤ j ∧ ∃ z, zs[j - k]? = some z ∧ PyData.eqv z d = true ∧ ∀ (m : Nat) (z' : PyData), m < j - k → zs[m]? = some z' → PyData.eqv z' d = false
  | [], _, _, e => by unfold firstAt at e; cases e
  | z :: zs, k, j, e => by
    unfold firstAt at e
    cases ez : PyData.eqv z d with
    | true =>
      rw [ez, if_pos rfl] at e
      cases e
      refine ⟨Nat.le_refl _, z, by rw [Nat.sub_self]; rfl, ez, fun m z' hm => by rw [Nat.sub_self] at hm; cases hm⟩
    | false =>
      rw [ez, if_neg Bool.false_ne_true] at e
      obtain ⟨h1, z2, h2, h3, h4⟩ := firstAt_ok e
      have e1 : j - k = (j - (k + 1)) + 1 := by omega
      refine ⟨by omega, z2, by rw [e1]; exact h2, h3, fun m z' hm hz => ?_⟩
      cases m with
      | zero =>
        have : z = z' := Option.some.inj hz
        rw [← this]
        exact ez
      | succ m => exact h4 m z' (by omega) hz
def fIndex : Fm := fun x us h => match us with
  | [u] => match rd h deep u with
    | some d => match rd h deep x with
      | some (.list ds) => if SeqAt.shaped (.list ds) && SeqAt.shaped d then (match firstAt d ds 0 with
        | some j => .ok (.int (j : Nat)) h
        | none => .stuck) else .stuck
      | _ => .stuck
    | none => .stuck
  | _ => .stuck
theorem s_index {K : PySem.W.Frag} : SMt g K "list" fIndex (rIndexD K) := fun E ρ x xs vx vs h H Q rx rs cs p => by
  unfold fIndex at p
  split at p
  · rename_i u
    obtain ⟨v, rfl, r1⟩ := one_of rs
    split at p
    · rename_i d ed
      split at p
      · rename_i ds el
        split at p
        · rename_i es
          rw [Bool.and_eq_true] at es
          split at p
          · rename_i j ej
            obtain ⟨_, z, hz, hzd, hno⟩ := firstAt_ok ej
            have dl := rd_dp (K := K) cs _ _ _ _ rx el
            cases dl with
            | lst hs ha => exact ⟨_, v, d, ds, j, z, rfl, rfl, .lst hs ha, rd_dp cs _ _ _ _ r1 ed, es.1, es.2, hz, hzd, hno, Post.here (rel := Rl g) p cs rfl⟩
          · exact p.elim
        · exact p.elim
      · exact p.elim
    · exact p.elim
  · exact p.elim
theorem e_index (hu : X.A.units + 65 < cLine) (ho : PE X o (T g W A)) (ha : PA X (e :: es) (TL g W L))
    (hbase : attributeBase o "index" X.env (eval o X.env) = eval o X.env := by rfl) (hfew : ((backTo cpos (starEach (e :: es) X.env)).all (fun x => !x.1) && (backToKw cpos (keywordEach [] X.env)).all (fun x => x.1.isSome) && decide ((e :: es).length + ([] : List Keyword).length + (if ([] : List Keyword).isEmpty then 0 else 1) < 30)) = true := by rfl)
    (hline : (apos.endLine == cpos.line) = true := by rfl) (hss : starEach (e :: es) X.env = (false, eval e X.env) :: starEach es X.env := by rfl) (hplain : (backTo cpos (starEach es X.env)).any (·.1) = false := by rfl) :
    PE X (.Call (.Attribute o "index" apos) (e :: es) [] cpos) (T g W (mMtL fIndex A L)) := e_mtL PySem.F.slot_list_index PySem.F.type_list_index (mt_indexD hu) s_index ho ha hbase hfew hline hss hplain

/-! ### is None -/
def fIsN : F2 := fun x y h => match y with
  | .non => match x with
    | .non => .ok (.bl true) h
    | _ => .ok (.bl false) h
  | _ => .stuck
def fNotN : F2 := fun x y h => match y with
  | .non => match x with
    | .non => .ok (.bl false) h
    | _ => .ok (.bl true) h
  | _ => .stuck
theorem non_iff {ρ : List Addr} {x : U} {v : V} (r : Rl g ρ x v) : decide (v = .non) = (match x with | .non => true | _ => false) := by
  cases x with
  | non => cases r; rfl
  | bl b => cases r; rfl
  | int b => cases r; rfl
  | str b => cases r; rfl
  | loc n => obtain ⟨a, _, rfl⟩ := r; rfl
  | scr => cases r; rfl
  | exn => obtain ⟨a, _, _, _, rfl⟩ := r; rfl
theorem s_isN : S2 g fIsN (fun x y H Q => y = .non ∧ Q (.bl (decide (x = .non))) H) := fun E ρ x y vx vy h H Q rx ry cs p => by
  cases y with
  | non =>
    refine ⟨ry, ?_⟩
    rw [non_iff rx]
    cases x <;> exact Post.here (rel := Rl g) p cs rfl
  | _ => exact p.elim
theorem s_notN : S2 g fNotN (fun x y H Q => y = .non ∧ Q (.bl (!decide (x = .non))) H) := fun E ρ x y vx vy h H Q rx ry cs p => by
  cases y with
  | non =>
    refine ⟨ry, ?_⟩
    rw [non_iff rx]
    cases x <;> exact Post.here (rel := Rl g) p cs rfl
  | _ => exact p.elim
end
end Vm

set_option Elab.async false
set_option linter.all false
set_option maxRecDepth 100000
set_option maxHeartbeats 4100000
namespace Vm
open L2 PyProof.Rows PySem PySem.Spec
/-! ### chains, minus, pairs stored, items stored, zip, enumerate -/
def mChain (f f' : F2) (a b c : Me) : Me := fun s h => (a s h).bind fun x h1 => (b s h1).bind fun y h2 => (f x y h2).bind fun z h3 => match z with
  | .bl true => (c s h3).bind fun w h4 => f' y w h4
  | .bl false => .ok (.bl false) h3
  | _ => .stuck
/-- an operation that changes nothing -/
def Pure2 (f : F2) : Prop := ∀ x y h z h', f x y h = .ok z h' → h' = h
section
variable {X : Cx} {g : Gc} {W : WX} {a b c e : Expr} {A B Cc : Me} {pos : Pos}
/-- by values, with what is left -/
def S2k (g : Gc) (f : F2) (r : R2) : Prop := ∀ (E : XK) ρ x y vx vy h H (Q : VK), Rl g ρ x vx → Rl g ρ y vy → Cs g ρ h H → Post g (Rl g) ρ (f x y h) Q E → r vx vy H Q
theorem chain_read {f f' : F2} {r r' : R2} (hs : S2 g f r) (hs' : S2 g f' r') {σ : L2.St} {H : Hp} {Q : VK} (q : At g (Rl g) (mChain f f' A B Cc) (WE W σ) σ H Q) : tChain r r' (T g W A) (T g W B) (T g W Cc) σ H Q := by
  refine At.seq (rel := Rl g) q fun ρ1 x s h1 v H1 hs1 c1 r1 p1 => ?_
  refine ⟨ρ1, s, h1, hs1, c1, (Post.cut (rel := Rl g) p1).imp fun w H2 ⟨ρ2, y, h2, e2, c2, r2, p2⟩ => ?_⟩
  refine hs _ ρ2 x y v w h2 H2 _ (Rl.mono e2 r1) r2 c2 ((Post.cut (rel := Rl g) p2).imp fun z H3 ⟨ρ3, k, h3, e3, c3, r3, p3⟩ => ?_)
  cases k with
  | bl k =>
    cases k with
    | true =>
      refine ⟨true, r3, ?_⟩
      rw [if_pos rfl]
      refine ⟨ρ3, s, h3, Rsl.mono (e2.trans e3) hs1, c3, (Post.cut (rel := Rl g) p3).imp fun t H4 ⟨ρ4, u, h4, e4, c4, r4, p4⟩ => ?_⟩
      exact hs' _ ρ4 y u w t h4 H4 Q (Rl.mono (e3.trans e4) r2) r4 c4 p4
    | false =>
      refine ⟨false, r3, ?_⟩
      rw [if_neg Bool.false_ne_true]; exact Post.here (rel := Rl g) p3 c3 rfl
  | _ => exact p3.elim
theorem e_chain {op op' : CmpOp} {f f' : F2} {r r' : R2} (ho : OpR X (compareOp op) r) (hs : S2 g f r) (ho' : OpR X (compareOp op') r') (hs' : S2 g f' r') (ha : PE X a (T g W A)) (hb : PE X b (T g W B)) (hc : PE X c (T g W Cc))
    (hm : lastMarks [op, op'] [b, c] = false := by with_unfolding_all rfl) : PE X (.Compare a [op, op'] [b, c] pos) (T g W (mChain f f' A B Cc)) :=
  PE.im (pe_chain ho ho' ha hb hc hm) fun _ _ _ q => chain_read hs hs' q
theorem t_chain {op op' : CmpOp} {f f' : F2} {r r' : R2} (ho : OpR X (compareOp op) r) (hs : S2 g f r) (ho' : OpR X (compareOp op') r') (hs' : S2 g f' r') (ha : PE X a (T g W A)) (hb : PE X b (T g W B)) (hc : PE X c (T g W Cc))
    (hm : lastMarks [op, op'] [b, c] = false := by with_unfolding_all rfl) : PT X (.Compare a [op, op'] [b, c] pos) (TB g W (bV (mChain f f' A B Cc))) := by
  refine PT.im (pt_chain ho ho' ha hb hc hm) fun σ H Q q => chain_read hs hs' ?_
  refine At.seq (rel := Rl g) (m := mChain f f' A B Cc) (k := fun x _ h1 => asB x h1) q fun ρ1 x s h1 v H1 hs1 c1 r1 p1 => ?_
  cases x with
  | bl k => exact ⟨k, r1, Post.here (rel := relB) p1 c1 rfl⟩
  | _ => exact p1.elim
/-- -i -/
def fNeg : U → Mh → R U := fun x h => match x with
  | .int i => .ok (.int (-i)) h
  | _ => .stuck
theorem s_neg : S1 g fNeg (rU fun i => .int (-i)) := fun E ρ x vx h H Q r cs p => by
  cases x with
  | int i => exact ⟨i, r, Post.here (rel := Rl g) p cs rfl⟩
  | _ => exact p.elim
/-- strings in order -/
def fLeS : F2 := fun x y h => match x, y with
  | .str i, .str j => .ok (.bl (!decide (j.cps.toList < i.cps.toList))) h
  | _, _ => .stuck
theorem s_leS : S2 g fLeS (fun x y H Q => ∃ i j, x = .str i ∧ y = .str j ∧ Q (.bl (!decide (j.cps.toList < i.cps.toList))) H) := fun E ρ x y vx vy h H Q rx ry cs p => by
  cases x with
  | str i =>
    cases y with
    | str j => exact ⟨i, j, rx, ry, Post.here (rel := Rl g) p cs rfl⟩
    | _ => exact p.elim
  | _ => cases y <;> exact p.elim
/-- a, b = x, y -/
def sPar (i j : Nat) (L : Ml) : Ms := fun s h => (L s h).bindS s fun us h1 => match us with
  | [u, w] => .nx ((s.set i (some u)).set j (some w)) h1
  | _ => .stuck
theorem s_par {i j : Nat} {x y : Str} {L : Ml} {px py pt : Pos} {kt k2 pt2} (hc : X.calm = true) (hN : X.N.Nodup) (ha : PA X [a, b] (TL g W L)) (hi : X.N[i]? = some x := by rfl) (hj : X.N[j]? = some y := by rfl) (hij : i ≠ j := by decide)
    (hx : X.env.scope.names.lookup x = some .local := by rfl) (hy : X.env.scope.names.lookup y = some .local := by rfl)
    (hw : swappedStores [.Tuple [.Name x px, .Name y py] kt pt] (.Tuple [a, b] k2 pt2) X.env = pure (some [x, y]) := by rfl) (hs : swapsWithSole [.Tuple [.Name x px, .Name y py] kt pt] (.Tuple [a, b] k2 pt2) pos.line X.env = pure false := by rfl) :
    PS X (.Assign [.Tuple [.Name x px, .Name y py] kt pt] (.Tuple [a, b] k2 pt2) pos) (TSm g W (sPar i j L)) := by
  refine PS.im (ps_par hc hN hi hj hij hx hy ha hw hs) fun D σ H q => AtS.seqE (rel := Rls g) (k := fun us s h1 => match us with | [u, w] => .nx ((s.set i (some u)).set j (some w)) h1 | _ => .stuck) q fun ρ1 us s h1 vs H1 hs c1 r1 p => ?_
  split at p
  · rename_i u w
    obtain ⟨v, v2, rfl, q1, q2⟩ := two_of r1
    exact ⟨v, v2, rfl, p ρ1 _ H1 (List.prefix_refl _) c1 (Paired.set (F := Rol g ρ1) (x := some w) (y := some v2) q2 j (Paired.set (F := Rol g ρ1) (x := some u) (y := some v) q1 i hs))⟩
  · exact p.elim
/-- xs[i] = v -/
def putIn (w x y : U) (s : Sl) (h3 : Mh) : RS := match x, y with
  | .loc n, .int k => match h3[n]? with
    | some (.lst xs) => match ixN xs.length k with
      | some j => .nx s (h3.set n (.lst (xs.set j w)))
      | none => .stuck
    | _ => .stuck
  | _, _ => .stuck
def sPut (o i v : Me) : Ms := fun s h => (v s h).bindS s fun w h1 => (o s h1).bindS s fun x h2 => (i s h2).bindS s fun y h3 => putIn w x y s h3
theorem PostS.cutE {α β : Type} {rel : List Addr → α → β → Prop} {ρ : List Addr} {s : Sl} {σ : L2.St} {r : R α} {f : α → Mh → RS} {D : Ends} (hs : Rsl g ρ s σ) (p : PostS g W ρ (r.bindS s f) D) :
    Post g rel ρ r (fun b H1 => ∃ ρ1 a h1, ρ <+: ρ1 ∧ Cs g ρ1 h1 H1 ∧ rel ρ1 a b ∧ PostS g W ρ1 (f a h1) D) (WE W σ) := by
  cases r with
  | ok a h => exact fun ρ2 b H2 e2 c2 r2 => ⟨ρ2, a, h, e2, c2, r2, PostS.mono e2 p⟩
  | ex c f h => exact fun ρ1 H1 e1 c1 => p ρ1 σ H1 e1 c1 (Rsl.mono e1 hs)
  | stuck => exact p.elim
theorem s_put {o i v : Expr} {O' I' V' : Me} {p2 : Pos} (ho : PE X o (T g W O')) (hi : PE X i (T g W I')) (hv : PE X v (T g W V'))
    (ha : ∀ v, assign (.Subscript o i p2) X.env v = (do
      let ov ← holding [v] (eval o X.env); let iv ← holding [v, ov] (eval i X.env)
      standAt p2
      holding [v, ov, iv] (setItem ov iv v); release [v, ov, iv] []) := by intro _; rfl) (hs : swapsWithSole [.Subscript o i p2] v pos.line X.env = pure false := by rfl) (hw : swappedStores [.Subscript o i p2] v X.env = pure none := by rfl)
    (h1 : (assignEach [.Subscript o i p2] X.env).map (·.2) = [assign (.Subscript o i p2) X.env] := by rfl) : PS X (.Assign [.Subscript o i p2] v pos) (TSm g W (sPut O' I' V')) := by
  refine PS.im (ps_asg hv (pg_sub ho hi set_list ha) hs hw h1) fun D σ H q => ?_
  refine AtS.seqE (rel := Rl g) (m := V') (k := fun w s h1 => (O' s h1).bindS s fun x h2 => (I' s h2).bindS s fun y h3 => putIn w x y s h3) q fun ρ1 w s h1 vw H1 hs1 c1 r1 p1 => ?_
  refine ⟨ρ1, s, h1, hs1, c1, (PostS.cutE (rel := Rl g) hs1 p1).imp fun vx H2 ⟨ρ2, x, h2, e2, c2, r2, p2⟩ => ?_⟩
  refine ⟨ρ2, s, h2, Rsl.mono e2 hs1, c2, (PostS.cutE (rel := Rl g) (Rsl.mono e2 hs1) p2).imp fun vy H3 ⟨ρ3, y, h3, e3, c3, r3, p3⟩ => ?_⟩
  cases x with
  | loc n =>
    cases y with
    | int k =>
      simp only [putIn] at p3
      cases en : h3[n]? with
      | none => rw [en] at p3; exact p3.elim
      | some o =>
        rw [en] at p3
        cases o with
        | lst xs =>
          simp only at p3
          cases ej : ixN xs.length k with
          | none => rw [ej] at p3; exact p3.elim
          | some j =>
            rw [ej] at p3
            obtain ⟨ad, vs, rfl, ea, rv, ha'⟩ := c3.lst en (Rl.mono e3 r2)
            refine ⟨ad, vs, k, j, rfl, r3, ha', by rw [← Paired.length rv]; exact ej, ?_⟩
            exact p3 ρ3 σ _ (List.prefix_refl _) (c3.put (o := .lst (xs.set j w)) ea (nfL ha') ⟨vs.set j vw, Paired.set (F := Rl g ρ3) (Rl.mono (e2.trans e3) r1) j rv, upd_same⟩) (Rsl.mono (e2.trans e3) hs1)
        | _ => exact p3.elim
    | _ => exact p3.elim
  | _ => cases y <;> exact p3.elim
end
end Vm

set_option Elab.async false
set_option linter.all false
set_option maxRecDepth 100000
set_option maxHeartbeats 4100000
namespace Vm
open L2 PyProof.Rows PySem PySem.Spec
/-! ### raise -/
abbrev veB : List Value := [.type "ValueError", .type "Exception", .type "BaseException", .type "object"]
section
variable {X : Cx} {C : Addr} {B newId initId : String} {bmB : List Value}
theorem pmk_own0 {x : Str} {p pos : Pos} (F : ExcBaseFacts B newId initId bmB) (q : PySem.W.excIn X.K C bmB newId = true) (gC : X.mg x = some (.ref C)) (kC : PySem.W.keepIn X.K (.ref C) = true) (r : Raises X (.ref C)) (hg : Gl X x)
    (hdb : (x == ("__debug__" : Str)) = false := by decide) : PMk X (.Call (.Name x p) [] [] pos) (fun _ H Q => Q (.ref C) none H) := by
  intro pins s σ H Q I h
  refine wpAny_Call_Name_kw (ld_glob I hg gC ?_ hdb); refine PySem.W.callWith_K0 I.kIn kC ?_
  show wpAny _ _ (call (.ref C) []) _ _ _
  obtain ⟨bm, N, nm, qn, bs, hdct, sn, sub, ab, col, dd, k0, k1, k2, k3, k5, mN, hC, hN, hni, T⟩ := exc_obj I.kIn q
  refine wpAny_call_exc_subT F T hC hN hni (fun h' e hm => ?_) (by show 0 ≤ sizeLine; exact Nat.zero_le _)
  exact mk_of I hm r h (I.hok.gone hm.new)
end
/-- what the written part says of an own exception class without own __init__ -/
structure Xc0 (K : PySem.W.Frag) (mg : Str → Option Value) (x : Str) (C : Addr) : Prop where
  gC : mg x = some (.ref C)
  kC : (PySem.W.keepIn K (.ref C)) = true
  xP : PySem.W.excIn K C veB "ValueError.__new__" = true
  bP : PySem.W.subIn K (.ref C) (.type "BaseException") = some true
  tP : PySem.W.typeIn K (.ref C) = some (.type "type")
/-- of one whose __init__ stores its one argument -/
structure Xc1 (K : PySem.W.Frag) (mg : Str → Option Value) (x f : Str) (C fI : Addr) : Prop where
  gC : mg x = some (.ref C)
  ox : OexC K C
  iC : PySem.W.findIn K (.ref C) "__init__" = some (some (.ref fI))
  tI : PySem.W.typeIn K (.ref fI) = some (.type "function")
  nf : PySem.W.findIn K (.ref C) f = some none
def spI (K : PySem.W.Frag) (f : Str) : Sp := fun vs H Q _ => ∃ a C y, vs = [.ref a, y] ∧ OexC K C ∧ PySem.W.findIn K (.ref C) f = some none ∧ H a = some (exo a C none) ∧
  ∀ dx, H dx = none → dx ≠ a → Q .non (upd (upd H dx (exd dx [(f, y)])) a (exo a C (some dx)))
/-- def __init__(self, f): self.f = f -/
theorem init_ok {P : Program} {w : World} {K : PySem.W.Frag} {mg : Str → Option Value} {base : Heap} {qual f : Str} {st : Stmt} {fI : Addr} {fd : FuncData} {k : Nat} {p1 p2 p3 p4 : Pos} (F : Fun K "__init__" qual st fI fd) (S : FnScope ["self", f] ["self", f] (defScope st))
    (hb : defBody st = [.Assign [.Attribute (.Name "self" p1) f p2] (.Name f p3) p4]) (h0 : Vis (defScope st) "self") (h1 : Vis (defScope st) f) (hd : (f == ("__debug__" : Str)) = false) (hcd : (f == ("__classdict__" : Str)) = false)
    (hs : ∀ X : Cx, swapsWith (.Name f p3) (some (.Attribute (.Name "self" p1) f p2)) p4.line X.env = pure false) :
    FnOk P w K mg base (L2.CX P w) (k + 1) fI fd ["self", f] (spI K f) := by
  refine F.okX S (fun vs H Q E h => ?_) (fun cdv A outer s H vs Q E hr h => ?_)
  · obtain ⟨a, C, y, rfl, _⟩ := h
    rfl
  · obtain ⟨a, C, y, rfl, T, nf, ea, q⟩ := h
    rw [hb]
    refine ⟨_, pss_one (ps_ost (pe_var (i := 0) (x := "self") rfl h0) (pe_var (i := 1) (x := f) rfl h1 hd hcd) (hs _)), ?_⟩
    exact ⟨y, rfl, .ref a, rfl, a, C, rfl, T, nf, .inl ⟨ea, fun dx n ne => q dx n ne⟩⟩
def sRaise0 (c : Nat) : Ms := fun s h => .ex c [] s h
def sRaise1 (c : Nat) (f : Str) (a : Me) : Ms := fun s h => (a s h).bindS s fun u h1 => .ex c [(f, u)] s h1
section
variable {X : Cx} {g : Gc} {W : WX} {A : Me} {M N : Ms} {e : Expr} {pos : Pos}
theorem s_raise0 {c : Nat} {x : Str} {p p2 : Pos} (hc : X.calm = true) (tk : Takes X W) (T : Xc0 X.K X.mg x (g.cl c)) (hg : Gl X x) (hdb : (x == ("__debug__" : Str)) = false := by decide) :
    PS X (.Raise (some (.Call (.Name x p) [] [] pos)) none p2) (TSm g W (sRaise0 c)) :=
  PS.im (ps_raise hc tk (pmk_own0 PySem.F.excBase_ValueError T.xP T.gC T.kC (raises_own T.bP T.tP) hg hdb)) fun D σ H ⟨ρ, s, h, hs, cs, p⟩ => (p ρ σ H (List.prefix_refl _) cs hs).1 rfl
theorem s_raise1 {c : Nat} {x f : Str} {p p2 : Pos} {fI : Addr} {fd : FuncData} {k : Nat} (hc : X.calm = true) (tk : Takes X W) (tk0 : Passes (L2.CX X.prog X.w) X (fun _ _ _ => False)) (T : Xc1 X.K X.mg x f (g.cl c) fI) (F : FnOk X.prog X.w X.K X.mg X.base (L2.CX X.prog X.w) k fI fd ["self", f] (spI X.K f)) (hr : Room (k + 1) X.A)
    (hb : Binds X.K fd ["self", f] []) (hg : Gl X x) (ha : PE X e (Vm.T g W A)) (hst : starEach [e] X.env = (false, eval e X.env) :: starEach [] X.env := by rfl) (hpl : (backTo pos (starEach ([] : List Expr) X.env)).any (·.1) = false := by rfl) (hdb : (x == ("__debug__" : Str)) = false := by decide) :
    PS X (.Raise (some (.Call (.Name x p) [e] [] pos)) none p2) (TSm g W (sRaise1 c f A)) := by
  refine PS.im (ps_raise hc tk (pmk_oex (sp := spI X.K f) (ds := []) (dvs := []) T.ox T.iC T.tI F hr hb .nil tk0 hg T.gC (pa_cons ha pa_nil hst) hdb hst hpl)) fun D σ H q => ?_
  refine AtS.seqE (rel := Rl g) (k := fun u s h1 => .ex c [(f, u)] s h1) q fun ρ1 u s h1 v H1 hs c1 r1 p => ?_
  refine ⟨(by show 1 ≤ 1000; decide), fun a ha => ⟨a, g.cl c, v, rfl, T.ox, T.nf, upd_same, fun dx hdx hne => ⟨rfl, dx, [(f, v)], upd_same, ?_, ?_, ?_⟩⟩⟩
  · rw [upd_ne hne, upd_same]
  · rw [upd_ne hne] at hdx
    exact hdx
  · have hd0 : H1 dx = none := by
      rw [upd_ne hne] at hdx
      exact hdx
    have q := (p ρ1 σ H1 (List.prefix_refl _) c1 hs).2 dx [(f, v)] (by simp) hd0 (.cons ⟨rfl, r1⟩ .nil)
    have e : upd (del (upd (upd (upd H1 a (exo a (g.cl c) none)) dx (exd dx [(f, v)])) a (exo a (g.cl c) (some dx))) a) dx (HO.xd [(f, v)]) = upd H1 dx (HO.xd [(f, v)]) := by
      funext b
      by_cases h1 : b = dx
      · subst h1
        rw [upd_same, upd_same]
      · rw [upd_ne h1, upd_ne h1]
        by_cases h2 : b = a
        · subst h2
          rw [del_same, ha]
        · rw [del_ne h2, upd_ne h2, upd_ne h1, upd_ne h2]
    show W (.ref (g.cl c)) (some dx) σ _
    rw [e]
    exact q

/-! ### try .. except X: suite -/
def noEx : RS → RS
  | .ex _ _ _ _ => .stuck
  | r => r
/-- tks: whether the clause takes the class -/
def sTry (b : Ms) (tks : Nat → Option Bool) (sx : Ms) : Ms := fun s h => match b s h with
  | .ex c f s1 h1 => match tks c with
    | some true => noEx (sx s1 h1)
    | some false => .ex c f s1 h1
    | none => .stuck
  | r => r
theorem PostS.noEx {ρ : List Addr} {r : RS} {D : Ends} {W' : WX} (p : PostS g W ρ (noEx r) D) : PostS g W' ρ r D := by
  cases r with
  | ex c f s h => exact p.elim
  | nx s h => exact p
  | rt u h => exact p
  | bk s h => exact p
  | ct s h => exact p
  | stuck => exact p
theorem s_try {x : Str} {cv : Value} {body suite : List Stmt} {b₀ : Stmt} {np pos' : Pos} {tks : Nat → Option Bool} (hs : X.stack = X.env :: X.outer) (hf : X.env.frame = some X.env.locals) (hc : Names X x cv) (tk : Takes X W)
    (hx : ∀ c k, tks c = some k → PySem.W.exmOne X.K (.ref (g.cl c)) cv = some k)
    (hb : ∀ (W' : WX) (pn : List (Addr × Obj)) (xe : Value → Shared → Prop), Takes (X.tr pn xe) W' → PassesOwn (model X.prog X.w) X.A X.env xe → PSs (X.tr pn xe) body (TSm g W' M))
    (hsu : ∀ (a : Addr) (pn : List (Addr × Obj)), PSs (X.suite a pn) (b₀ :: suite) (TSm g W0 N)) :
    PS X (.Try body [.ExceptHandler (some (.Name x np)) none (b₀ :: suite) pos'] [] [] pos) (TSm g W (sTry M tks N)) := by
  refine PS.im (ps_try_only (tb := fun W' => TSm g W' M) (ts := fun _ _ _ => TSm g W0 N) hs hf hc tk hb (fun a oe cls d pn _ _ => hsu a _)) fun D σ H ⟨ρ, s, h, hr, cs, p⟩ => ?_
  refine ⟨ρ, s, h, hr, cs, ?_⟩
  unfold sTry at p
  cases em : M s h with
  | ex c f s1 h1 =>
    rw [em] at p
    simp only at p
    intro ρ' σ' H' e' c' r'
    cases et : tks c with
    | none => rw [et] at p; exact p.elim
    | some k =>
      rw [et] at p
      have ek := hx c k et
      cases k with
      | true =>
        simp only at p
        have q : PostS g W0 ρ' (N s1 h1) D := PostS.mono e' (PostS.noEx p)
        exact ⟨fun _ => ⟨true, ek, fun _ a _ => ⟨ρ', s1, h1, r', c', q⟩, (fun z => nomatch z)⟩, fun d gs _ hd _ => ⟨true, ek, fun _ a _ => ⟨ρ', s1, h1, r', c'.skip hd, q⟩, (fun z => nomatch z)⟩⟩
      | false =>
        simp only at p
        exact ⟨fun f0 => ⟨false, ek, (fun z => nomatch z), fun _ => (p ρ' σ' H' e' c' r').1 f0⟩, fun d gs f0 hd rf => ⟨false, ek, (fun z => nomatch z), fun _ => (p ρ' σ' H' e' c' r').2 d gs f0 hd rf⟩⟩
  | nx s1 h1 => rw [em] at p; exact p
  | rt u h1 => rw [em] at p; exact p
  | bk s1 h1 => rw [em] at p; exact p
  | ct s1 h1 => rw [em] at p; exact p
  | stuck => rw [em] at p; exact p
/-! ### try .. except X as n: suite; n's fields read -/
/-- no place of the caught exception -/
def clean : U → Bool
  | .exn => false
  | _ => true
def cleanO : O → Bool
  | .lst xs => xs.all clean
  | .tup xs => xs.all clean
  | .tpl xs => xs.all clean
  | .ins _ fs => fs.all fun p => clean p.2
  | .exc _ fs => fs.all fun p => clean p.2
def cleanS (s : Sl) : Bool := s.all fun u => match u with
  | some u => clean u
  | none => true
def unslot (i : Nat) : RS → RS
  | .nx s h => if cleanS (s.set i none) && h.all cleanO then .nx (s.set i none) h else .stuck
  | .rt u h => if clean u && h.all cleanO then .rt u h else .stuck
  | _ => .stuck
def sTryAs (b : Ms) (tks : Nat → Option Bool) (i : Nat) (sx : Nat → List (Str × U) → Ms) : Ms := fun s h => match b s h with
  | .ex c f s1 h1 => match tks c with
    | some true => match f with
      | [] => .stuck
      | p :: f => unslot i (sx c (p :: f) (s1.set i (some .exn)) h1)
    | some false => .ex c f s1 h1
    | none => .stuck
  | r => r
/-- the context within a suite -/
abbrev Gc.at (g : Gc) (a dd : Addr) (f : List (Str × U)) : Gc := { g with exn := some (a, dd, f) }
end
section
variable {g : Gc} {ρ : List Addr} {h : Mh} {H : Hp} {a dd : Addr} {f : List (Str × U)}
theorem Rl.up (hg : g.exn = none) {u : U} {v : V} (r : Rl g ρ u v) : Rl (g.at a dd f) ρ u v := by
  cases u with
  | exn =>
    obtain ⟨_, _, _, e, _⟩ := r
    rw [hg] at e
    cases e
  | _ => exact r
theorem Rls.up (hg : g.exn = none) {us : List U} {vs : List V} (r : Rls g ρ us vs) : Rls (g.at a dd f) ρ us vs := Paired.mapP r fun _ _ q => Rl.up hg q
theorem Rf.up (hg : g.exn = none) {us : List (Str × U)} {vs : List (Str × V)} (r : Rf g ρ us vs) : Rf (g.at a dd f) ρ us vs := Paired.mapP r fun _ _ q => ⟨q.1, Rl.up hg q.2⟩
theorem Rsl.up (hg : g.exn = none) {us : Sl} {vs : L2.St} (r : Rsl g ρ us vs) : Rsl (g.at a dd f) ρ us vs := Paired.mapP r fun x y q => by
  cases x with
  | none => trivial
  | some u =>
    cases y with
    | none => exact q
    | some v => exact Rl.up hg q
theorem Om.up (hg : g.exn = none) {b : Addr} {o : O} (m : Om g ρ H b o) : Om (g.at a dd f) ρ H b o := by
  cases o with
  | lst xs => obtain ⟨vs, r, q⟩ := m; exact ⟨vs, Rls.up hg r, q⟩
  | tup xs => obtain ⟨vs, o, r, d, q⟩ := m; exact ⟨vs, o, Rls.up hg r, d, q⟩
  | tpl xs => obtain ⟨vs, r, q⟩ := m; exact ⟨vs, Rls.up hg r, q⟩
  | ins c fs => obtain ⟨dx, gs, r, q⟩ := m; exact ⟨dx, gs, Rf.up hg r, q⟩
  | exc c fs =>
    rcases m with ⟨e0, q⟩ | ⟨dx, gs, r, q, q2⟩
    · exact .inl ⟨e0, q⟩
    · exact .inr ⟨dx, gs, Rf.up hg r, q, q2⟩
theorem Cs.up (hg : g.exn = none) (c : Cs g ρ h H) {gs : List (Str × V)} (r : Rf g ρ f gs) (e : H dd = some (.xd gs)) : Cs (g.at a dd f) ρ h H :=
  ⟨c.len, fun n o b e1 e2 => Om.up hg (c.at_ n o b e1 e2), c.inj, c.scr, fun a' dd' f' ex => by
    have ex' : some (a, dd, f) = some (a', dd', f') := ex
    cases ex'
    exact ⟨gs, Rf.up hg r, e⟩⟩
theorem Rl.down {u : U} {v : V} (r : Rl (g.at a dd f) ρ u v) (c : clean u = true) : Rl g ρ u v := by
  cases u with
  | exn => cases c
  | _ => exact r
theorem Rls.down : ∀ {us : List U} {vs : List V}, Rls (g.at a dd f) ρ us vs → us.all clean = true → Rls g ρ us vs
  | _, _, .nil, _ => .nil
  | _, _, .cons q t, c => by
    rw [List.all_cons, Bool.and_eq_true] at c
    exact .cons (Rl.down q c.1) (Rls.down t c.2)
theorem Rf.down : ∀ {us : List (Str × U)} {vs : List (Str × V)}, Rf (g.at a dd f) ρ us vs → (us.all fun p => clean p.2) = true → Rf g ρ us vs
  | _, _, .nil, _ => .nil
  | _, _, .cons q t, c => by
    rw [List.all_cons, Bool.and_eq_true] at c
    exact .cons ⟨q.1, Rl.down q.2 c.1⟩ (Rf.down t c.2)
theorem Rsl.down : ∀ {us : Sl} {vs : L2.St}, Rsl (g.at a dd f) ρ us vs → cleanS us = true → Rsl g ρ us vs
  | _, _, .nil, _ => .nil
  | x :: _, y :: _, .cons q t, c => by
    unfold cleanS at c
    rw [List.all_cons, Bool.and_eq_true] at c
    refine .cons ?_ (Rsl.down t c.2)
    cases x with
    | none => trivial
    | some u =>
      cases y with
      | none => exact q
      | some v => exact Rl.down q c.1
theorem Cs.down (c : Cs (g.at a dd f) ρ h H) (hg : g.exn = none) (k : h.all cleanO = true) : Cs g ρ h H :=
  ⟨c.len, fun n o b e1 e2 => by
    have m := c.at_ n o b e1 e2
    have ko : cleanO o = true := List.all_eq_true.mp k o (List.mem_of_getElem? e1)
    cases o with
    | lst xs => obtain ⟨vs, r, q⟩ := m; exact ⟨vs, Rls.down r ko, q⟩
    | tup xs => obtain ⟨vs, o, r, d, q⟩ := m; exact ⟨vs, o, Rls.down r ko, d, q⟩
    | tpl xs => obtain ⟨vs, r, q⟩ := m; exact ⟨vs, Rls.down r ko, q⟩
    | ins c fs => obtain ⟨dx, gs, r, q⟩ := m; exact ⟨dx, gs, Rf.down r ko, q⟩
    | exc c fs =>
      rcases m with ⟨e0, q⟩ | ⟨dx, gs, r, q, q2⟩
      · exact .inl ⟨e0, q⟩
      · exact .inr ⟨dx, gs, Rf.down r ko, q, q2⟩, c.inj, c.scr, fun a' dd' f' ex => by
    rw [hg] at ex
    cases ex⟩
end
section
variable {X : Cx} {g : Gc} {W : WX} {A : Me} {M : Ms} {e : Expr} {pos : Pos}
theorem s_tryAs {x n : Str} {cv : Value} {body suite : List Stmt} {b₀ : Stmt} {np pos' : Pos} {tks : Nat → Option Bool} {i : Nat} {N : Nat → List (Str × U) → Ms} (hgx : g.exn = none) (hs : X.stack = X.env :: X.outer) (hf : X.env.frame = some X.env.locals) (hN : X.N.Nodup) (hi : X.N[i]? = some n) (hln : X.env.kindOf n = some .local) (hc : Names X x cv) (tk : Takes X W)
    (hx : ∀ c k, tks c = some k → PySem.W.exmOne X.K (.ref (g.cl c)) cv = some k)
    (hb : ∀ (W' : WX) (pn : List (Addr × Obj)) (xe : Value → Shared → Prop), Takes (X.tr pn xe) W' → PassesOwn (model X.prog X.w) X.A X.env xe → PSs (X.tr pn xe) body (TSm g W' M))
    (hsu : ∀ (a : Addr) (oe : Obj) (c : Nat) (dd : Addr) (f : List (Str × U)) (pn : List (Addr × Obj)), tks c = some true → Zc (.ref (g.cl c)) (some dd) oe → (∃ vs, oe.data = .fields vs) → PSs (X.suite a ((a, oe) :: pn)) (b₀ :: suite) (TSm (g.at a dd f) W0 (N c f))) :
    PS X (.Try body [.ExceptHandler (some (.Name x np)) (some n) (b₀ :: suite) pos'] [] [] pos) (TSm g W (sTryAs M tks i N)) := by
  refine PS.im (ps_try_as (tb := fun W' => TSm g W' M) (ts := fun a cls d D σ H => ∃ c dd f, cls = .ref (g.cl c) ∧ d = some dd ∧ tks c = some true ∧ TSm (g.at a dd f) W0 (N c f) D σ H) hs hf hN hi hln hc tk hb (fun a oe cls d pn hz hd => ⟨fun pins s σ H D I q => ?_⟩)) fun D σ H ⟨ρ, s, h, hr, cs, p⟩ => ?_
  · obtain ⟨c, dd, f, rfl, rfl, ht, q⟩ := q
    exact (hsu a oe c dd f pn ht hz hd).run pins s σ H D I q
  refine ⟨ρ, s, h, hr, cs, ?_⟩
  unfold sTryAs at p
  cases em : M s h with
  | ex c f s1 h1 =>
    rw [em] at p
    simp only at p
    intro ρ' σ' H' e' c' r'
    cases et : tks c with
    | none => rw [et] at p; exact p.elim
    | some k =>
      rw [et] at p
      have ek := hx c k et
      cases k with
      | true =>
        simp only at p
        cases f with
        | nil => exact p.elim
        | cons p0 f0 =>
        simp only at p
        have hne : p0 :: f0 ≠ [] := by simp
        generalize p0 :: f0 = f at p hne
        refine ⟨fun f0 => absurd f0 hne, fun d gs _ hd rf => ⟨true, ek, fun _ a ha => ⟨c, d, f, rfl, rfl, et, ρ', s1.set i (some .exn), h1, ?_, Cs.up hgx (c'.skip hd) rf upd_same, ?_⟩, (fun z => nomatch z)⟩⟩
        · exact Paired.set (F := Rol (g.at a d f) ρ') (x := some .exn) (y := some (.ref a)) ⟨a, d, f, rfl, rfl⟩ i (Rsl.up hgx r')
        · have p := PostS.mono e' p
          cases en : N c f (s1.set i (some .exn)) h1 with
          | nx s2 h2 =>
            rw [en] at p
            simp only [unslot] at p
            cases ek : (cleanS (s2.set i none) && h2.all cleanO) with
            | true =>
              rw [ek, if_pos rfl] at p
              rw [Bool.and_eq_true] at ek
              intro ρ2 σ2 H2 e2 c2 r2
              exact p ρ2 _ H2 e2 (c2.down hgx ek.2) (Rsl.down (Paired.set (F := Rol (g.at a d f) ρ2) (x := none) (y := none) trivial i r2) ek.1)
            | false => rw [ek, if_neg Bool.false_ne_true] at p; exact p.elim
          | rt u h2 =>
            rw [en] at p
            simp only [unslot] at p
            cases ek : (clean u && h2.all cleanO) with
            | true =>
              rw [ek, if_pos rfl] at p
              rw [Bool.and_eq_true] at ek
              intro ρ2 v2 H2 e2 c2 r2
              exact p ρ2 v2 H2 e2 (c2.down hgx ek.2) (Rl.down r2 ek.1)
            | false => rw [ek, if_neg Bool.false_ne_true] at p; exact p.elim
          | bk s2 h2 => rw [en] at p; exact p.elim
          | ct s2 h2 => rw [en] at p; exact p.elim
          | ex c2 f2 s2 h2 => rw [en] at p; exact p.elim
          | stuck => rw [en] at p; exact p.elim
      | false =>
        simp only at p
        exact ⟨fun f0 => ⟨false, ek, (fun z => nomatch z), fun _ => (p ρ' σ' H' e' c' r').1 f0⟩, fun d gs f0 hd rf => ⟨false, ek, (fun z => nomatch z), fun _ => (p ρ' σ' H' e' c' r').2 d gs f0 hd rf⟩⟩
  | nx s1 h1 => rw [em] at p; exact p
  | rt u h1 => rw [em] at p; exact p
  | bk s1 h1 => rw [em] at p; exact p
  | ct s1 h1 => rw [em] at p; exact p
  | stuck => rw [em] at p; exact p
/-- n.attr in the suite -/
def mXf (f : List (Str × U)) (n : Str) (a : Me) : Me := fun s h => (a s h).bind fun u h1 => match u with
  | .exn => match f.lookup n with
    | some w => .ok w h1
    | none => .stuck
  | _ => .stuck
theorem Rf.look {ρ : List Addr} {n : Str} : ∀ {f : List (Str × U)} {gs : List (Str × V)} {u : U}, Rf g ρ f gs → f.lookup n = some u → ∃ v, gs.lookup n = some v ∧ Rl g ρ u v
  | _, _, _, .nil, e => by cases e
  | (m, x) :: _, (m', y) :: _, u, .cons ⟨q1, q2⟩ t, e => by
    have q1 : m = m' := q1
    subst q1
    unfold List.lookup at e ⊢
    cases hm : n == m with
    | true =>
      rw [hm] at e
      cases e
      exact ⟨y, rfl, q2⟩
    | false =>
      rw [hm] at e
      exact Rf.look t e
theorem e_xf {a : Addr} {oe : Obj} {c : Nat} {dd : Addr} {f : List (Str × U)} {pn : List (Addr × Obj)} {n : Str} (T : XfC X.K (g.cl c)) (hno : PySem.W.findIn X.K (.ref (g.cl c)) n = some none) (hz : Zc (.ref (g.cl c)) (some dd) oe) (hf : ∃ vs, oe.data = .fields vs)
    (he : PE (X.suite a ((a, oe) :: pn)) e (Vm.T (g.at a dd f) W A)) (hb : attributeBase e n X.env (eval e X.env) = eval e X.env := by rfl) :
    PE (X.suite a ((a, oe) :: pn)) (.Attribute e n pos) (Vm.T (g.at a dd f) W (mXf f n A)) := by
  refine PE.im (pe_xf T hno hz hf he hb) fun σ H Q q => At.seq (rel := Rl (g.at a dd f)) q fun ρ1 x s h1 v H1 hs1 c1 r1 p1 => ?_
  cases x with
  | exn =>
    obtain ⟨a', dd', f', ex, rfl⟩ := r1
    have ex' : some (a, dd, f) = some (a', dd', f') := ex
    cases ex'
    obtain ⟨gs, rf, ed⟩ := c1.xn a dd f rfl
    simp only at p1
    cases el : f.lookup n with
    | none => rw [el] at p1; exact p1.elim
    | some w =>
      rw [el] at p1
      obtain ⟨vv, ev, rv⟩ := Rf.look rf el
      exact ⟨rfl, rfl, dd, gs, vv, rfl, ed, ev, Post.here (rel := Rl (g.at a dd f)) p1 c1 rv⟩
  | _ => exact p1.elim
end
end Vm

set_option Elab.async false
set_option linter.all false
set_option maxRecDepth 100000
set_option maxHeartbeats 4100000
namespace Vm
open L2 PyProof.Rows PySem PySem.Spec
/-! ### own classes -/
/-- the instance's fields, of the class c -/
def insOf (c : Nat) (u : U) (h : Mh) : Option (Nat × List (Str × U)) := match u with
  | .loc n => match h[n]? with
    | some (.ins k fs) => if k = c then some (n, fs) else none
    | _ => none
  | _ => none
def mFld (c : Nat) (f : Str) (a : Me) : Me := fun s h => (a s h).bind fun u h1 => match insOf c u h1 with
  | some (_, fs) => match fs.lookup f with
    | some w => .ok w h1
    | none => .stuck
  | none => .stuck
def putFU (f : Str) (v : U) : List (Str × U) → List (Str × U)
  | [] => [(f, v)]
  | (g, x) :: r => if g = f then (g, v) :: r else (g, x) :: putFU f v r
def sFldM (c : Nat) (f : Str) (o v : Me) : Ms := fun s h => (v s h).bindS s fun w h1 => (o s h1).bindS s fun u h2 => match insOf c u h2 with
  | some (n, fs) => if fs.length < 1000 then .nx s (h2.set n (.ins c (putFU f w fs))) else .stuck
  | none => .stuck
/-- o.m(..), m no attribute of the object -/
def mMeth (c : Nat) (m : Str) (d : List U → Mh → R U) (o : Me) (a : Ml) : Me := fun s h => (o s h).bind fun u h1 => match insOf c u h1 with
  | some (_, fs) => match fs.lookup m with
    | none => (a s h1).bind fun us h2 => d (u :: us) h2
    | some _ => .stuck
  | none => .stuck
def nox {α : Type} : R α → R α
  | .ex _ _ _ => .stuck
  | r => r
def mProp (c : Nat) (d : List U → Mh → R U) (o : Me) : Me := fun s h => (o s h).bind fun u h1 => match insOf c u h1 with
  | some _ => nox (d [u] h1)
  | none => .stuck
def mMake (c : Nat) (d : List U → Mh → R U) (a : Ml) : Me := fun s h => (a s h).bind fun us h1 => (d (.loc h1.length :: us) (h1 ++ [.ins c []])).bind fun w h2 => match w with
  | .non => .ok (.loc h1.length) h2
  | _ => .stuck
section
variable {X : Cx} {g : Gc} {W : WX} {A O' V' : Me} {L : Ml} {e o v : Expr} {es : List Expr} {f m x : Str} {pos p apos : Pos} {c : Nat}
theorem insOf_ok {ρ : List Addr} {h : Mh} {H : Hp} {u : U} {vv : V} {n : Nat} {fs : List (Str × U)} (cs : Cs g ρ h H) (r : Rl g ρ u vv) (e : insOf c u h = some (n, fs)) : ∃ a dx gs, u = .loc n ∧ vv = .ref a ∧ ρ[n]? = some a ∧ Rf g ρ fs gs ∧ H a = some (.ins (g.cl c) dx gs) := by
  unfold insOf at e
  cases u with
  | loc k =>
    simp only at e
    cases en : h[k]? with
    | none => rw [en] at e; cases e
    | some ob =>
      rw [en] at e
      cases ob with
      | ins k2 fs2 =>
        simp only at e
        by_cases hk : k2 = c
        · rw [if_pos hk] at e
          cases e
          subst hk
          obtain ⟨a, ea, rfl⟩ := r
          obtain ⟨dx, gs, rf, q⟩ := cs.at_ _ _ a en ea
          exact ⟨a, dx, gs, rfl, rfl, ea, rf, q⟩
        · rw [if_neg hk] at e
          cases e
      | _ => cases e
  | _ => cases e
theorem Rf.look0 {ρ : List Addr} {n : Str} : ∀ {f : List (Str × U)} {gs : List (Str × V)}, Rf g ρ f gs → f.lookup n = none → gs.lookup n = none
  | _, _, .nil, _ => rfl
  | (m, x) :: _, (m', y) :: _, .cons ⟨q1, q2⟩ t, e => by
    have q1 : m = m' := q1
    subst q1
    unfold List.lookup at e ⊢
    cases hm : n == m with
    | true => rw [hm] at e; cases e
    | false => rw [hm] at e; exact Rf.look0 t e
theorem Rf.put {ρ : List Addr} {n : Str} {w : U} {vw : V} (r : Rl g ρ w vw) : ∀ {f : List (Str × U)} {gs : List (Str × V)}, Rf g ρ f gs → Rf g ρ (putFU n w f) (putF n vw gs)
  | _, _, .nil => .cons ⟨rfl, r⟩ .nil
  | (m, x) :: f, (m', y) :: gs, .cons ⟨q1, q2⟩ t => by
    have q1 : m = m' := q1
    subst q1
    unfold putFU putF
    by_cases hm : m = n
    · rw [if_pos hm, if_pos hm]
      exact .cons ⟨rfl, r⟩ t
    · rw [if_neg hm, if_neg hm]
      exact .cons ⟨rfl, q2⟩ (Rf.put r t)
theorem e_fld (T : Cls X.K (g.cl c)) (nf : NoAttr X.K (g.cl c) f) (he : PE X e (Vm.T g W A)) (hb : attributeBase e f X.env (eval e X.env) = eval e X.env := by rfl) : PE X (.Attribute e f pos) (Vm.T g W (mFld c f A)) := by
  refine PE.im (pe_fld he hb) fun σ H Q q => At.seq (rel := Rl g) q fun ρ1 u s h1 vv H1 hs1 c1 r1 p1 => ?_
  cases ei : insOf c u h1 with
  | none => rw [ei] at p1; exact p1.elim
  | some nf' =>
    obtain ⟨n, fs⟩ := nf'
    rw [ei] at p1
    simp only at p1
    obtain ⟨a, dx, gs, rfl, rfl, ea, rf, q⟩ := insOf_ok c1 r1 ei
    cases el : fs.lookup f with
    | none => rw [el] at p1; exact p1.elim
    | some w =>
      rw [el] at p1
      obtain ⟨y, ey, ry⟩ := Rf.look rf el
      exact ⟨a, g.cl c, dx, gs, y, rfl, q, T, nf, ey, Post.here (rel := Rl g) p1 c1 ry⟩
theorem s_fldM {p' : Pos} (T : Cls X.K (g.cl c)) (nf : NoAttr X.K (g.cl c) f) (ho : PE X o (Vm.T g W O')) (hv : PE X v (Vm.T g W V')) (hs : swapsWith v (some (.Attribute o f p')) pos.line X.env = pure false := by rfl) :
    PS X (.Assign [.Attribute o f p'] v pos) (TSm g W (sFldM c f O' V')) := by
  refine PS.im (ps_fld ho hv hs) fun D σ H q => ?_
  refine AtS.seqE (rel := Rl g) (m := V') (k := fun w s h1 => (O' s h1).bindS s fun u h2 => match insOf c u h2 with
    | some (n, fs) => if fs.length < 1000 then .nx s (h2.set n (.ins c (putFU f w fs))) else .stuck
    | none => .stuck) q fun ρ1 w s h1 vw H1 hs1 c1 r1 p1 => ?_
  refine ⟨ρ1, s, h1, hs1, c1, (PostS.cutE (rel := Rl g) hs1 p1).imp fun vx H2 ⟨ρ2, u, h2, e2, c2, r2, p2⟩ => ?_⟩
  cases ei : insOf c u h2 with
  | none => rw [ei] at p2; exact p2.elim
  | some nf' =>
    obtain ⟨n, fs⟩ := nf'
    rw [ei] at p2
    simp only at p2
    obtain ⟨a, dx, gs, rfl, rfl, ea, rf, q⟩ := insOf_ok c2 r2 ei
    by_cases hl : fs.length < 1000
    · rw [if_pos hl] at p2
      refine ⟨a, g.cl c, dx, gs, rfl, q, T, nf, by rw [← Paired.length rf]; exact hl, ?_⟩
      exact p2 ρ2 σ _ (List.prefix_refl _) (c2.put (o := .ins c (putFU f w fs)) ea ⟨fun _ _ z => (by rw [q] at z; cases z), fun _ z => (by rw [q] at z; cases z), fun _ z => (by rw [q] at z; cases z)⟩ ⟨dx, _, Rf.put (Rl.mono e2 r1) rf, upd_same⟩) (Rsl.mono e2 hs1)
    · rw [if_neg hl] at p2
      exact p2.elim
/-! ### methods, with what they may let out wished at the slots -/
def tMethS (C : Addr) (m : Str) (sp : Sp) (E : L2.St → XK) (ta : TE) (t : TA) : TE := fun σ H Q => ta σ H fun x H1 => ∃ a dx fs, x = .ref a ∧ H1 a = some (.ins C dx fs) ∧ fs.lookup m = none ∧
  t σ H1 fun vs H2 => sp (x :: vs) H2 Q (E σ)
theorem pe_methT {CX : CXT} {k : Nat} {C fm : Addr} {fd : FuncData} {ps : List Str} {sp : Sp} {E : L2.St → XK} {ta : TE} {t : TA} {pl : Sem Bool} (he : PE X o ta) (cl : Cls X.K C) (hm : Meth X.K C m fm) (F : FnOk X.prog X.w X.K X.mg X.base CX k fm fd ps sp) (hr : Room k X.A) (hb : Binds X.K fd ps []) (hx : ∀ σ, PassesAt CX X σ (E σ)) (ha : PA X (e :: es) t) (hst : starEach (e :: es) X.env = (false, eval e X.env) :: starEach es X.env := by rfl) (hpl : (backTo pos (starEach es X.env)).any (·.1) = false := by rfl) (ht : eval (.Call (.Attribute o m apos) (e :: es) [] pos) X.env = (do
      let ov ← eval o X.env
      standAt apos.atName
      let (f, first) ← holding [ov] (getMethod ov m pl); callWith pos f first (backTo pos (starEach (e :: es) X.env)) (backToKw pos (keywordEach [] X.env))) := by rfl) : PE X (.Call (.Attribute o m apos) (e :: es) [] pos) (tMethS C m sp E ta t) := by
  refine ⟨fun pins s σ H Q I h => ?_⟩; refine PySem.W.methodCall_KW (pl := pl) (thn (he.run pins s σ H _ I h) fun u s1 ⟨x, H1, I1, rx, a, dx, fs, ex, ea, l, q⟩ => ?_) ht
  subst ex
  obtain rfl : u = Value.ref a := rx; refine getmeth_ok I1 ea cl hm l ?_
  refine PySem.W.callWith_K (h₀ := X.base) (first := [.ref a]) I.ok.mod.kin hm.kp (thn (ha.run pos pins s1 σ H1 _ I1 q) fun us s2 ⟨vs, H2, I2, r, q2⟩ => ⟨I2.kIn, ?_⟩) hst hpl; exact run_fnS (us := .ref a :: us) (vs := .ref a :: vs) F hr hb (hx σ) I2 (.cons rfl r) q2
theorem pe_methT0 {CX : CXT} {k : Nat} {C fm : Addr} {fd : FuncData} {ps : List Str} {sp : Sp} {E : L2.St → XK} {ta : TE} {pl : Sem Bool} (he : PE X o ta) (cl : Cls X.K C) (hm : Meth X.K C m fm) (F : FnOk X.prog X.w X.K X.mg X.base CX k fm fd ps sp) (hr : Room k X.A) (hb : Binds X.K fd ps []) (hx : ∀ σ, PassesAt CX X σ (E σ)) (ht : eval (.Call (.Attribute o m apos) [] [] pos) X.env = (do
      let ov ← eval o X.env
      standAt apos.atName
      let (f, first) ← holding [ov] (getMethod ov m pl); callWith pos f first (backTo pos (starEach [] X.env)) (backToKw pos (keywordEach [] X.env))) := by rfl) :
    PE X (.Call (.Attribute o m apos) [] [] pos) (tMethS C m sp E ta tNil) := by
  refine ⟨fun pins s σ H Q I h => ?_⟩; refine PySem.W.methodCall_KW (pl := pl) (thn (he.run pins s σ H _ I h) fun u s1 ⟨x, H1, I1, rx, a, dx, fs, ex, ea, l, q⟩ => ?_) ht
  subst ex
  obtain rfl : u = Value.ref a := rx; refine getmeth_ok I1 ea cl hm l ?_
  exact PySem.W.callWith_K0 (first := [.ref a]) I1.kIn hm.kp (run_fnS (us := [.ref a]) (vs := [.ref a]) F hr hb (hx σ) I1 (.cons rfl .nil) q)
theorem meth_read {n : Nat} {d : List U → Mh → R U} {σ : L2.St} {H : Hp} {Q : VK} (hl : ∀ s h xs h', L s h = .ok xs h' → xs.length + 1 = n) (q : At g (Rl g) (mMeth c m d A L) (WE W σ) σ H Q) : tMethS (g.cl c) m (spM g n d) (WE W) (Vm.T g W A) (TL g W L) σ H Q := by
  refine At.seq (rel := Rl g) q fun ρ1 u s h1 vv H1 hs1 c1 r1 p1 => ?_
  cases ei : insOf c u h1 with
  | none => rw [ei] at p1; exact p1.elim
  | some nf' =>
    obtain ⟨k, fs⟩ := nf'
    rw [ei] at p1
    simp only at p1
    obtain ⟨a, dx, gs, rfl, rfl, ea, rf, qa⟩ := insOf_ok c1 r1 ei
    cases el : fs.lookup m with
    | some w => rw [el] at p1; exact p1.elim
    | none =>
      rw [el] at p1
      refine ⟨a, dx, gs, rfl, qa, Rf.look0 rf el, ρ1, s, h1, hs1, c1, ?_⟩
      cases eL : L s h1 with
      | ok us h2 =>
        rw [eL] at p1
        intro ρ2 vs H2 e2 c2 r2
        exact ⟨by rw [List.length_cons, ← Paired.length r2]; exact hl _ _ _ _ eL, ρ2, .loc k :: us, h2, .cons (Rl.mono e2 r1) r2, c2, Post.mono e2 p1⟩
      | ex cc ff h2 => rw [eL] at p1; exact p1
      | stuck => rw [eL] at p1; exact p1.elim
theorem e_meth {k : Nat} {fm : Addr} {fd : FuncData} {ps : List Str} {n : Nat} {d : List U → Mh → R U} (T : Cls X.K (g.cl c)) (hm : Meth X.K (g.cl c) m fm) (F : FnOk X.prog X.w X.K X.mg X.base (L2.CX X.prog X.w) k fm fd ps (spM g n d)) (hr : Room k X.A) (hb : Binds X.K fd ps []) (tk : Takes X W) (he : PE X o (Vm.T g W A)) (ha : PA X (e :: es) (TL g W L))
    (hl : ∀ s h xs h', L s h = .ok xs h' → xs.length + 1 = n) {pl : Sem Bool} (hst : starEach (e :: es) X.env = (false, eval e X.env) :: starEach es X.env := by rfl) (hpl : (backTo pos (starEach es X.env)).any (·.1) = false := by rfl) (ht : eval (.Call (.Attribute o m apos) (e :: es) [] pos) X.env = (do
      let ov ← eval o X.env
      standAt apos.atName
      let (f, first) ← holding [ov] (getMethod ov m pl); callWith pos f first (backTo pos (starEach (e :: es) X.env)) (backToKw pos (keywordEach [] X.env))) := by rfl) :
    PE X (.Call (.Attribute o m apos) (e :: es) [] pos) (Vm.T g W (mMeth c m d A L)) :=
  PE.im (pe_methT he T hm F hr hb (fun σ => passAt tk σ) ha hst hpl ht) fun σ H Q q => meth_read hl q
theorem e_meth0 {k : Nat} {fm : Addr} {fd : FuncData} {ps : List Str} {n : Nat} {d : List U → Mh → R U} (T : Cls X.K (g.cl c)) (hm : Meth X.K (g.cl c) m fm) (F : FnOk X.prog X.w X.K X.mg X.base (L2.CX X.prog X.w) k fm fd ps (spM g n d)) (hr : Room k X.A) (hb : Binds X.K fd ps []) (tk : Takes X W) (he : PE X o (Vm.T g W A))
    (hl : 1 = n) {pl : Sem Bool} (ht : eval (.Call (.Attribute o m apos) [] [] pos) X.env = (do
      let ov ← eval o X.env
      standAt apos.atName
      let (f, first) ← holding [ov] (getMethod ov m pl); callWith pos f first (backTo pos (starEach [] X.env)) (backToKw pos (keywordEach [] X.env))) := by rfl) :
    PE X (.Call (.Attribute o m apos) [] [] pos) (Vm.T g W (mMeth c m d A lN)) := by
  refine PE.im (pe_methT0 he T hm F hr hb (fun σ => passAt tk σ) ht) fun σ H Q q => ?_
  refine At.seq (rel := Rl g) q fun ρ1 u s h1 vv H1 hs1 c1 r1 p1 => ?_
  cases ei : insOf c u h1 with
  | none => rw [ei] at p1; exact p1.elim
  | some nf' =>
    obtain ⟨kk, fs⟩ := nf'
    rw [ei] at p1
    simp only at p1
    obtain ⟨a, dx, gs, rfl, rfl, ea, rf, qa⟩ := insOf_ok c1 r1 ei
    cases el : fs.lookup m with
    | some w => rw [el] at p1; exact p1.elim
    | none =>
      rw [el] at p1
      exact ⟨a, dx, gs, rfl, qa, Rf.look0 rf el, hl, ρ1, [.loc kk], h1, .cons r1 .nil, c1, p1⟩
/-- e.f, a property -/
theorem e_prop {k : Nat} {pa fm : Addr} {fd : FuncData} {ps : List Str} {n : Nat} {d : List U → Mh → R U} (T : Cls X.K (g.cl c)) (hp : PropOf X.K (g.cl c) f pa fm) (F : FnOk X.prog X.w X.K X.mg X.base (L2.CX X.prog X.w) k fm fd ps (spM g n d)) (hr : Room (k + 1) X.A) (hb : Binds X.K fd ps []) (hn : 1 = n) (he : PE X e (Vm.T g W A)) (hab : attributeBase e f X.env (eval e X.env) = eval e X.env := by rfl) :
    PE X (.Attribute e f pos) (Vm.T g W (mProp c d A)) := by
  refine PE.im (pe_prop (X := X) (E := E0) (dvs := []) (ds := []) he T hp F hr hb .nil (fun pins σ H s er s' I h => passL (X := X.nox) pins σ H s er s' I h) hab) fun σ H Q q => At.seq (rel := Rl g) q fun ρ1 u s h1 vv H1 hs1 c1 r1 p1 => ?_
  cases ei : insOf c u h1 with
  | none => rw [ei] at p1; exact p1.elim
  | some nf' =>
    obtain ⟨kk, fs⟩ := nf'
    rw [ei] at p1
    simp only at p1
    obtain ⟨a, dx, gs, rfl, rfl, ea, rf, qa⟩ := insOf_ok c1 r1 ei
    refine ⟨a, dx, gs, rfl, qa, hn, ρ1, [.loc kk], h1, .cons r1 .nil, c1, ?_⟩
    cases ed : d [.loc kk] h1 with
    | ok w h2 => rw [ed] at p1; exact p1
    | ex cc ff h2 => rw [ed] at p1; exact p1.elim
    | stuck => rw [ed] at p1; exact p1.elim
/-! ### C(..) -/
def tMakeS (C : Addr) (sp : Sp) (E : L2.St → XK) (t : TA) : TE := fun σ H Q => t σ H fun vs H1 => ∀ x dx, H1 x = none → H1 dx = none → dx ≠ x →
  sp (.ref x :: vs) (upd (upd H1 dx (.own x)) x (.ins C dx [])) (fun v H2 => v = .non ∧ Q (.ref x) H2) (E σ)
theorem pe_makeT {CX : CXT} {k : Nat} {C fI : Addr} {fd : FuncData} {ps : List Str} {sp : Sp} {E : L2.St → XK} {t : TA} (M : Mk X.K C fI) (F : FnOk X.prog X.w X.K X.mg X.base CX k fI fd ps sp) (hr : Room (k + 1) X.A) (hg : Gl X x) (hm : X.mg x = some (.ref C)) (hb : Binds X.K fd ps []) (hx : ∀ σ, PassesAt CX X σ (E σ)) (ha : PA X (e :: es) t) (hdb : (x == ("__debug__" : Str)) = false := by decide) (he : starEach (e :: es) X.env = (false, eval e X.env) :: starEach es X.env := by rfl) (hpl : (backTo pos (starEach es X.env)).any (·.1) = false := by rfl) :
    PE X (.Call (.Name x p) (e :: es) [] pos) (tMakeS C sp E t) := by
  refine ⟨fun pins s σ H Q I h => ?_⟩; refine wpAny_Call_Name_kw (ld_glob I hg hm ?_ hdb)
  refine PySem.W.callWith_K (h₀ := X.base) I.ok.mod.kin M.kp (thn (ha.run pos pins s σ H _ I h) fun us s1 ⟨vs, H1, I1, r, h⟩ => ⟨I1.kIn, ?_⟩) he hpl
  show wpAny _ _ (call (.ref C) us) _ _ _; have hq := h (s1.heap.objs.size + 1) s1.heap.objs.size (I1.hok.fresh (Nat.le_succ _)) (I1.hok.fresh (Nat.le_refl _)) (Nat.ne_of_lt (Nat.lt_succ_self _))
  have I2 := Inv.made (C := C) I1
  have r2 : Vals (V.ref (s1.heap.objs.size + 1) :: vs) (Value.ref (s1.heap.objs.size + 1) :: us) := .cons rfl r
  have hl : (Value.ref (s1.heap.objs.size + 1) :: us ++ []).length = ps.length := by
    have e := r2.length
    rw [F.len _ _ _ _ hq] at e
    rw [List.append_nil]
    exact e.symm
  have b := hb { heap := _, gens := _, drawn := _, toks := _, os := _ } (Value.ref (s1.heap.objs.size + 1) :: us) I2.kIn hl
  rw [List.append_nil] at b
  refine wpAny_call (make_map (f := fI) I1.kIn M.makes M.init (beq_iff_eq.mp M.fn) (codeAny_mono (F.run _ X.stack _ _ ⟨Value.ref (s1.heap.objs.size + 1) :: us, []⟩ (Value.ref (s1.heap.objs.size + 1) :: us) _ _ (E σ) (hr.make C us [])
    (I2.env0.make C us []) b r2 hq) fun r s' hq' => ?_))
  cases r with
  | error e => exact hx σ pins _ _ e s' I2 hq'
  | ok fl =>
    cases fl with
    | ret u =>
      obtain ⟨v, H', I3, rv, ev, q3⟩ := I2.after hq'; subst ev
      exact ⟨rv, ⟨V.ref (s1.heap.objs.size + 1), H', I3, rfl, q3⟩⟩
    | next => exact hq'.elim
    | brk => exact False.elim hq'
    | cont => exact hq'.elim
theorem e_make {k : Nat} {fI : Addr} {fd : FuncData} {ps : List Str} {n : Nat} {d : List U → Mh → R U} (M : Mk X.K (g.cl c) fI) (F : FnOk X.prog X.w X.K X.mg X.base (L2.CX X.prog X.w) k fI fd ps (spM g n d)) (hr : Room (k + 1) X.A) (hg : Gl X x) (hm : X.mg x = some (.ref (g.cl c))) (hb : Binds X.K fd ps []) (tk : Takes X W)
    (ha : PA X (e :: es) (TL g W L)) (hl : ∀ s h xs h', L s h = .ok xs h' → xs.length + 1 = n) (hdb : (x == ("__debug__" : Str)) = false := by decide) (he : starEach (e :: es) X.env = (false, eval e X.env) :: starEach es X.env := by rfl) (hpl : (backTo pos (starEach es X.env)).any (·.1) = false := by rfl) :
    PE X (.Call (.Name x p) (e :: es) [] pos) (Vm.T g W (mMake c d L)) := by
  refine PE.im (pe_makeT M F hr hg hm hb (fun σ => passAt tk σ) ha hdb he hpl) fun σ H Q q => ?_
  obtain ⟨ρ, s, h, hs, cs, p⟩ := q
  refine ⟨ρ, s, h, hs, cs, ?_⟩
  unfold mMake at p
  cases eL : L s h with
  | ok us h1 =>
    rw [eL] at p
    intro ρ1 vs H1 e1 c1 r1 x dx hx hdx hne
    have c2 : Cs g ρ1 h1 (upd H1 dx (.own x)) := c1.skip hdx
    have hx2 : upd H1 dx (.own x) x = none := by rw [upd_ne hne.symm]; exact hx
    have c3 : Cs g (ρ1 ++ [x]) (h1 ++ [.ins c []]) (upd (upd H1 dx (.own x)) x (.ins (g.cl c) dx [])) := c2.new hx2 ⟨dx, [], .nil, upd_same⟩
    have ex : (ρ1 ++ [x])[h1.length]? = some x := new_get ρ1 x c1.len
    refine ⟨by rw [List.length_cons, ← Paired.length r1]; exact hl _ _ _ _ eL, ρ1 ++ [x], .loc h1.length :: us, _, .cons ⟨x, ex, rfl⟩ (Rls.mono (pre_snoc _ _) r1), c3, ?_⟩
    simp only [R.bind] at p
    cases ed : d (.loc h1.length :: us) (h1 ++ [.ins c []]) with
    | ok w h2 =>
      rw [ed] at p
      simp only at p
      cases w with
      | non =>
        intro ρ4 v4 H4 e4 c4 r4
        exact ⟨r4, p ρ4 (.ref x) H4 ((e1.trans (pre_snoc _ _)).trans e4) c4 ⟨x, pre_get e4 ex, rfl⟩⟩
      | _ => exact p.elim
    | ex cc ff h2 =>
      rw [ed] at p
      exact Xp.mono (e1.trans (pre_snoc _ _)) p
    | stuck => rw [ed] at p; exact p.elim
  | ex cc ff h1 => rw [eL] at p; exact p
  | stuck => rw [eL] at p; exact p.elim
end
/-! ### the law's own entry -/
theorem scr_of {g : Gc} {H : Hp} (h1 : Only H) (h2 : SqL g.K H g.sa (g.ns.map V.int)) : Scr g H := by
  rcases h2 with (e | ⟨o, e⟩) | k
  · rcases h1 g.sa with z | ⟨o, xs, z⟩
    · rw [z] at e; cases e
    · rw [z] at e; cases e
  · exact .inl ⟨o, e⟩
  · exact .inr k
def spLaw (K : PySem.W.Frag) : Sp := fun vs H Q _ => ∃ (a : Addr) (ns : List Int), vs = [.ref a] ∧ ns.length ≤ 63 ∧ Only H ∧ SqL K H a (ns.map V.int) ∧ ∀ H', Q (.bl true) H'
/-- the mirror's answer is True -/
def Yes (r : R U) : Prop := match r with
  | .ok (.bl true) _ => True
  | _ => False
theorem law_ok {P : Program} {w : World} {K : PySem.W.Frag} {mg : Str → Option Value} {base : Heap} {k : Nat} {f : Addr} {fd : FuncData} {d : List Int → List U → Mh → R U} (cl : Nat → Addr)
    (F : ∀ g : Gc, g.K = K → g.cl = cl → g.exn = none → FnOk P w K mg base (L2.CX P w) k f fd ["script"] (spM g 1 (d g.ns)))
    (y : ∀ ns : List Int, ns.length ≤ 63 → Yes (d ns [.scr] [])) : FnOk P w K mg base (L2.CX P w) k f fd ["script"] (spLaw K) := by
  refine ⟨fun vs H Q E h => ?_, fun A outer s H args us vs Q E hr he hb hv h => ?_⟩
  · obtain ⟨a, ns, rfl, _⟩ := h
    rfl
  · obtain ⟨a, ns, rfl, hl, hO, hS, q⟩ := h
    refine (F ⟨cl, K, a, ns, none⟩ rfl rfl rfl).run A outer s H args us [.ref a] Q E hr he hb hv ⟨rfl, [], [.scr], [], .cons rfl .nil, ⟨rfl, fun n o b e => (by simp at e), List.nodup_nil, scr_of hO hS, fun _ _ _ e => nomatch e⟩, ?_⟩
    have yy := y ns hl
    show Post _ _ _ (d ns [.scr] []) Q E
    cases e : d ns [.scr] [] with
    | ok u h =>
      rw [e] at yy
      cases u with
      | bl b =>
        cases b with
        | true =>
          intro ρ' v H' _ _ r
          have r' : v = .bl true := r
          subst r'
          exact q H'
        | false => exact yy.elim
      | _ => exact yy.elim
    | ex c f h => rw [e] at yy; exact yy.elim
    | stuck => rw [e] at yy; exact yy.elim
theorem walk_law {l : PySem.W.OpenLaw} {q : Program} {loose : List Str} {XP : (Str → Option Value) → Heap → Prop} {YP : World → Heap → Prop} {d : DefRec} {K : Params → PySem.W.Frag} {k : Nat} (hn : l.most = some 63) (hdf : d.params.defaults = []) (hr : Room k callerA) (hY : ∀ (w : World) (h : Heap), YP w h → (K w.params).In h) (F : ∀ (w : World) (mg : Str → Option Value) (fa : Addr) (h : Heap), (K w.params).In h → h.Ns mainGlobals mg → mg d.name = some (.ref fa) →
      ∃ fd : FuncData, (∀ (s : Shared) (u : Value), BindsTo s fd ⟨[u], []⟩ [("script", u)]) ∧ ∀ base : Heap, (K w.params).In base → base.Ns mainGlobals mg → FnOk l.prog w (K w.params) mg base (L2.CX l.prog w) k fa fd ["script"] (spLaw (K w.params))) : PySem.W.WalkO q loose XP YP l.row.toRowW d [] (fun f vs => PySem.call f vs) :=
  L2.walk_of (n := 63) (k := k) (x := "script") (CX := fun w => L2.CX l.prog w) (sp := fun w => spLaw (K w.params)) hn (by decide) hdf hr hY F (fun _ _ a ns hl hO hS => ⟨a, ns, rfl, hl, hO, hS, fun _ => rfl⟩) fun w H s e s' z => by
    obtain ⟨_, _, _, _, _, _, _, _, _, _, _, _, z⟩ := z
    exact z.elim
end Vm

set_option Elab.async false
set_option linter.all false
set_option maxRecDepth 100000
set_option maxHeartbeats 4100000
namespace Vm
open PySem PySem.Spec PyProof.Rows L2 PySem.W PySem.Calls PySem.HandSPX
/-! ### an own exception class called, also by name -/
section
variable {M : Model} {prog : Program} {w : World} {A : Around} {E : Value → Shared → Prop} {R : Result → Shared → Prop} {s : Shared} {kw : List (Str × Value)}
variable {nm q : Str} {C N : Addr} {bs bm : List Value} {hdct : Bool} {sn : List Str} {sub : List Value} {ab : Bool} {col : Option Bool} {dd : Option Addr} {k0 k1 k2 k3 k5 : Option Value} {B newId initId : String} {bB : List Value}
theorem chkN (F : ExcBaseFacts B newId initId bB) (hT : ∀ Y : String, bm.contains (.type Y) = bB.contains (.type Y)) {us : List Value} {Q : Unit → Shared → Prop} (hC : s.heap.get? C = some (excClassObj nm q C N bs bm hdct sn sub ab col dd k0 k1 k2 k3 k5 newId)) (z : Q () s) :
    wpAny M A (checkBuiltinCall newId ⟨.ref C :: us, kw⟩) Q E s := by
  obtain ⟨h, g, d, t, os⟩ := s
  have c1 : (Value.ref C :: bm).contains (.type B) = true := (List.contains_cons ..).trans (by rw [hT, F.hasB] <;> rfl)
  have c2 := F.noStar; simp only [checkBuiltinCall, F.newKind, F.newSplit, F.newRow]
  repeat (first | refine wpAny_loadPart_at hC ?_ | (refine wpAny_isSubtype_exc hC ?_; rw [c1]) | refine wpAny_staticBase_exc hC ?_ | refine wpAny_madeBy_exc hC ?_ | simp only [bne_self_eq_false, Bool.false_eq_true, if_false] | wp_step)
  exact z
theorem runN (F : ExcBaseFacts B newId initId bB) (hT : ∀ Y : String, bm.contains (.type Y) = bB.contains (.type Y)) {us : List Value} (hC : s.heap.get? C = some (excClassObj nm q C N bs bm hdct sn sub ab col dd k0 k1 k2 k3 k5 newId)) (hz : us.length ≤ sizeLine)
    (z : R (.ok (.ret (.ref (s.heap.objs.size + 1)))) { s with heap := (s.heap.push (kdv_tup us)).push (excO C s.heap.objs.size) }) : codeAny (model prog w) A (.builtin newId ⟨.ref C :: us, kw⟩) R s := by
  obtain ⟨h, g, d, t, os⟩ := s
  have c0 := F.ends
  have c1 : (Value.ref C :: bm).contains (.type B) = true := (List.contains_cons ..).trans (by rw [hT, F.hasB] <;> rfl)
  have c2 : (Value.ref C :: bm).contains (.type "AttributeError") = false := (List.contains_cons ..).trans (by rw [hT, F.noAttr] <;> rfl)
  have c3 : (Value.ref C :: bm).contains (.type "NameError") = false := (List.contains_cons ..).trans (by rw [hT, F.noName] <;> rfl)
  refine codeAny_builtinAt F.entry (PySem.wpAt_bind ?_)
  show PySem.wpAt _ _ _ (stack >>= _) _ _ _
  refine PySem.wpAt_bind (PySem.wpAt_stack fun p below => PySem.wpAt_of_wpAny ?_)
  wp_walk
  refine PySem.wpAt_of_wpAny ?_
  rw [F.owner]
  repeat (first | with_reducible refine wpAny_madeHere_exc F.canon hC ?_ | with_reducible refine wpAny_loadPart_at hC ?_ | (with_reducible refine wpAny_isSubtype_exc hC ?_; first | rw [c1] | rw [c2] | rw [c3]) | wp_step)
  show R _ _
  rw [Heap.size_push]
  exact z
theorem chkT {us : List Value} {Q : Unit → Shared → Prop} (hC : s.heap.get? C = some (excClassObj nm q C N bs bm hdct sn sub ab col dd k0 k1 k2 k3 k5 newId)) (z : Q () s) : wpAny M A (checkBuiltinCall "type.__call__" ⟨.ref C :: us, kw⟩) Q E s := by
  obtain ⟨h, g, d, t, os⟩ := s
  exact check_slot tc_kind tc_split ((Looks.ld hC).andThen (Looks.of_pure tc_sub)) (tc_args _ _ _) z
/-- what the class's own __init__ gives back -/
def InitK (p : Addr) (R : Result → Shared → Prop) : Result → Shared → Prop := fun r s' => match r with
  | .ok (.ret v) => v = .none ∧ R (.ok (.ret (.ref p))) s'
  | .ok _ => False
  | .error e => R (.error e) s'
theorem callC (F : ExcBaseFacts B newId initId bB) (hT : ∀ Y : String, bm.contains (.type Y) = bB.contains (.type Y)) {us : List Value} {fI : Addr} (hC : s.heap.get? C = some (excClassObj nm q C N bs bm hdct sn sub ab col dd k0 k1 k2 k3 k5 newId))
    (hi : W.Looks (model prog w) s.heap (typeLookup (.ref C) "__init__") (some (.ref fI))) (hb : ∀ self, W.Looks (model prog w) s.heap (bindSpecial (.ref fI) self) (.ref fI, [self])) (hz : us.length ≤ sizeLine)
    (z : codeAny (model prog w) (A.under (.builtin "type.__call__" ⟨.ref C :: us, kw⟩)) (.call (.ref fI) ⟨.ref (s.heap.objs.size + 1) :: us, kw⟩) (InitK (s.heap.objs.size + 1) R) { s with heap := (s.heap.push (kdv_tup us)).push (excO C s.heap.objs.size) }) :
    codeAny (model prog w) A (.call (.ref C) ⟨us, kw⟩) R s := by
  obtain ⟨h, g, d, t, os⟩ := s
  have f1 := tc_lookup
  have f2 := tc_bind (.ref C)
  have ty : (⟨h, g, d, t, os⟩ : Shared).TypeIs (.ref C) "type" := ⟨_, hC, rfl⟩
  refine codeAny_of_tree ?_; show wpAny _ _ (callAny (.ref C) _) _ _ _
  repeat any_goals first | assumption | with_reducible refine wpAny_loadPart_at hC ?_ | wp_step
  refine ⟨rfl, codeAny_call_builtin_at (Code.quiet_builtin _ (by decide +kernel)) entry_typeCall (chkT hC ?_)⟩
  repeat first | with_reducible refine wpAny_loadPart_at hC ?_ | with_reducible refine wpAny_madeBy_exc hC ?_ | wp_step
  refine codeAny_call_builtin_code (Code.quiet_builtin _ F.quiet) (chkN F hT hC (runN F hT hC hz ?_))
  change wpAny _ _ _ _ _ ⟨(h.push (kdv_tup us)).push (excO C h.objs.size), g, d, t, os⟩
  have up : ∀ b o, h.get? b = some o → ((h.push (kdv_tup us)).push (excO C h.objs.size)).get? b = some o := fun b o e => Heap.get?_push_of_some _ (Heap.get?_push_of_some _ e)
  have hC1 := up _ _ hC
  have he : ((h.push (kdv_tup us)).push (excO C h.objs.size)).get? (h.objs.size + 1) = some (excO C h.objs.size) := by heap_get
  have own : (Value.ref C :: bm).contains (.ref C) = true := by simp
  have i1 := hi.keeps up
  have b1 := (hb (.ref (h.objs.size + 1))).keeps up
  unfold isInstance
  repeat (first | with_reducible refine wpAny_loadPart_at he ?_ | (with_reducible refine wpAny_isSubtype_exc hC1 ?_; rw [own]) | wp_step)
  show wpAny _ _ (typeLookup (.ref C) _) _ _ _; refine i1.at (wpAny_holding (wpAny_bind (b1.at (wpAny_bind (wpAny_call (codeAny_mono z fun r s' y => ?_))))))
  rcases r with e | (v | _ | _ | _) <;> first | exact y | exact y.elim | skip
  obtain ⟨rfl, y⟩ := y
  first
    | exact wpAny_pure (wpAny_pure y)
    | (wp_walk; exact y)
end
end Vm

set_option Elab.async false
set_option linter.all false
set_option maxRecDepth 100000
set_option maxHeartbeats 4100000
namespace Vm
open L2 PyProof.Rows PySem PySem.Spec
/-! ### repr -/
/-- r stands for a wish on data read deep -/
def rRepr (K : PySem.W.Frag) : List V → Hp → VK → Prop := fun xs H Q => ∃ v d, xs = [v] ∧ Dp K H v d ∧ d.hasDict = false ∧ d.showable = true ∧ d.shown.length ≤ sizeLine ∧ d.depth ≤ 60 ∧ Q (.str d.shown) H
theorem call_reprD {X : Cx} (hg : X.A.guards = some []) (hu : X.A.units + 65 < cLine) : CallR X (.builtin "repr") (rRepr X.K) := by
  intro pins s σ H xs us Q I r ⟨v, d, ex, hd, nd, sh, sz, dp, q⟩
  subst ex
  obtain ⟨u, rfl, rv⟩ := vals1 r
  obtain ⟨as, rd⟩ := Dp.reads I d v u hd rv
  have fin : ∀ {t : Tok} {k : Nat}, EP X pins σ Q (.str d.shown t) { s with toks := k } := fun {t k} => ⟨.str d.shown, H, I.tok k, ⟨t, rfl⟩, q⟩
  cases rd with
  | none => exact PySem.P.repr_of_none fin
  | bool b =>
    refine PySem.P.repr_of_bool ?_
    cases b
    · exact fin
    · exact fin
  | int i t => exact PySem.P.repr_of_int (of_decide_eq_true sh) fin
  | str x t => exact PySem.P.repr_of_str fin sz
  | list e1 e2 e3 e4 => exact repr_of_reads' (.list e1 e2 e3 e4) sh (PyData.noDict_hsm nd) hg (by omega) (fun _ _ e => e) (fun h' u tk hk => ⟨.str _, H, I.kept (t' := tk) hk, ⟨u, rfl⟩, q⟩) sz
  | tuple e1 e2 e3 e4 => exact repr_of_reads' (.tuple e1 e2 e3 e4) sh (PyData.noDict_hsm nd) hg (by omega) (fun _ _ e => e) (fun h' u tk hk => ⟨.str _, H, I.kept (t' := tk) hk, ⟨u, rfl⟩, q⟩) sz
  | dict e1 e2 e3 e4 e5 => exact absurd nd (by unfold PyData.hasDict; decide)
def fRepr : List U → Mh → R U := fun us h => match us with
  | [x] => match rd h deep x with
    | some d => if !d.hasDict && d.showable && decide (d.shown.length ≤ 100000) && decide (d.depth ≤ 60) then .ok (.str d.shown) h else .stuck
    | none => .stuck
  | _ => .stuck
theorem s_repr {g : Gc} {K : PySem.W.Frag} : SL g fRepr (rRepr K) := fun E ρ xs vs h H Q r cs p => by
  unfold fRepr at p
  split at p
  · rename_i x
    obtain ⟨v, rfl, r1⟩ := one_of r
    cases e : rd h deep x with
    | none => rw [e] at p; exact p.elim
    | some d =>
      rw [e] at p
      simp only at p
      split at p
      · rename_i c
        simp only [Bool.and_eq_true, Bool.not_eq_true', decide_eq_true_eq] at c
        exact ⟨v, d, rfl, rd_dp cs _ _ _ _ r1 e, c.1.1.1, c.1.1.2, big_line c.1.2, c.2, Post.here (rel := Rl g) p cs rfl⟩
      · exact p.elim
  · exact p.elim
/-! ### exceptions as values -/
section
variable {X : Cx} {g : Gc} {W : WX} {A : Me} {e : Expr} {pos : Pos} {pins : List (Addr × Obj)} {σ : L2.St} {H : Hp} {s : Shared}
/-- a class with its own __init__ of one field, called at what stands -/
theorem exn_run {C fI : Addr} {f : Str} {fd : FuncData} {k : Nat} {us : List Value} {kw : List (Str × Value)} {y : V} {u : Value} {Q : VK} (T : OexC X.K C) (nf : PySem.W.findIn X.K (.ref C) f = some none) (iC : PySem.W.findIn X.K (.ref C) "__init__" = some (some (.ref fI))) (tI : PySem.W.typeIn X.K (.ref fI) = some (.type "function"))
    (F : FnOk X.prog X.w X.K X.mg X.base (L2.CX X.prog X.w) k fI fd ["self", f] (spI X.K f)) (hr : Room (k + 1) X.A) (hx : Passes (L2.CX X.prog X.w) X (fun _ _ _ => False)) (hz : us.length ≤ sizeLine)
    (bt : ∀ (s : Shared) (p : Value), X.K.In s.heap → BindsTo s fd ⟨p :: us, kw⟩ ((["self", f] : List Str).zip [p, u])) (I : Inv X pins σ H s) (r : RelV y u) (q : ∀ a dx, H a = none → H dx = none → dx ≠ a → Q (.ref a) (upd (upd H dx (exd dx [(f, y)])) a (exo a C (some dx)))) :
    wpAny (model X.prog X.w) X.A (call (.ref C) us kw) (EP X pins σ Q) X.xe s := by
  obtain ⟨nm, qn, N, bs, bm, sn, sub, ab, col, dd, k0, k1, k2, k3, k5, hC, hbm⟩ := T.cls
  obtain ⟨hp, g0, d0, t0, o0⟩ := s
  have sz : hp.objs.size ≤ hp.objs.size + 1 := Nat.le_succ _
  have ha : H (hp.objs.size + 1) = none := I.hok.fresh sz
  have up : ∀ b o, hp.get? b = some o → ((hp.push (PySem.W.kdv_tup us)).push (PySem.HandSPX.excO C hp.objs.size)).get? b = some o := fun b o e => Heap.get?_push_of_some _ (Heap.get?_push_of_some _ e)
  have he : ((hp.push (PySem.W.kdv_tup us)).push (PySem.HandSPX.excO C hp.objs.size)).get? (hp.objs.size + 1) = some (PySem.HandSPX.excO C hp.objs.size) := by heap_get
  have I2 := I.laid (t' := t0) (a := hp.objs.size + 1) (o := exo (hp.objs.size + 1) C none) up sz (exo_ok he)
  have hs : spI X.K f [.ref (hp.objs.size + 1), y] (upd H (hp.objs.size + 1) (exo (hp.objs.size + 1) C none)) (fun v H' => v = .non ∧ Q (.ref (hp.objs.size + 1)) H') (fun _ _ _ => False) := by
    refine ⟨_, C, y, rfl, T, nf, upd_same, fun dx n ne => ⟨rfl, ?_⟩⟩
    rw [upd_ne ne] at n
    have z := q _ dx ha n ne
    have e : upd (upd (upd H (hp.objs.size + 1) (exo (hp.objs.size + 1) C none)) dx (exd dx [(f, y)])) (hp.objs.size + 1) (exo (hp.objs.size + 1) C (some dx)) = upd (upd H dx (exd dx [(f, y)])) (hp.objs.size + 1) (exo (hp.objs.size + 1) C (some dx)) := by
      funext b
      by_cases h1 : b = hp.objs.size + 1
      · rw [h1, upd_same, upd_same]
      · by_cases h2 : b = dx
        · rw [h2, upd_ne ne, upd_ne ne, upd_same, upd_same]
        · rw [upd_ne h1, upd_ne h1, upd_ne h2, upd_ne h2, upd_ne h1]
    rw [e]
    exact z
  refine wpAny_call (callC PySem.F.excBase_ValueError (fun Y => PySem.HandSPX.refsVE_contains Y bm hbm) (I.kIn _ _ hC) (PySem.W.looks_findIn I.kIn iC) (fun self => PySem.W.bind_fn I.kIn self tI) hz ?_)
  refine codeAny_mono (F.run _ X.stack _ _ ⟨Value.ref (hp.objs.size + 1) :: us, kw⟩ [Value.ref (hp.objs.size + 1), u] [.ref (hp.objs.size + 1), y] _ _ (hr.make C us kw) (I2.env0.make C us kw) (bt _ _ I2.kIn) (.cons rfl (.cons r .nil)) hs) fun r s' z => ?_
  cases r with
  | error er => exact hx pins σ _ _ er s' I2 z
  | ok fl =>
    cases fl with
    | ret w =>
      obtain ⟨v, H', J, rv, ev, q3⟩ := I2.after z
      subst ev
      exact ⟨rv, ⟨V.ref (hp.objs.size + 1), H', J, rfl, q3⟩⟩
    | next => exact False.elim z
    | brk => exact False.elim z
    | cont => exact False.elim z
end
end Vm

set_option Elab.async false
set_option linter.all false
set_option maxRecDepth 100000
set_option maxHeartbeats 4100000
namespace Vm
open L2 PyProof.Rows PySem PySem.Spec
section
variable {X : Cx} {g : Gc} {W : WX} {A : Me} {e : Expr} {pos : Pos} {pins : List (Addr × Obj)} {σ : L2.St} {H : Hp} {s : Shared}
/-- what it comes to -/
def exnW (C : Addr) (f : Str) (Q : VK) (y : V) (H1 : Hp) : Prop := ∀ a dx, H1 a = none → H1 dx = none → dx ≠ a → Q (.ref a) (upd (upd H1 dx (exd dx [(f, y)])) a (exo a C (some dx)))
def exnWs (C : Addr) (f : Str) (Q : VK) : List V → Hp → Prop := fun vs H1 => match vs with
  | [y] => exnW C f Q y H1
  | _ => False
theorem exnWs_one {C : Addr} {f : Str} {Q : VK} {vs : List V} {H1 : Hp} (q : exnWs C f Q vs H1) : ∃ y, vs = [y] ∧ exnW C f Q y H1 := by
  match vs, q with
  | [y], q => exact ⟨y, rfl, q⟩
theorem one_line : 1 ≤ sizeLine := big_line (by decide)
def tExn (C : Addr) (f : Str) (te : TE) : TE := fun σ H Q => te σ H fun y H1 => exnW C f Q y H1
theorem pe_exnP {C fI : Addr} {x f : Str} {fd : FuncData} {k : Nat} {te : TE} {p : Pos} (T : Xc1 X.K X.mg x f C fI) (F : FnOk X.prog X.w X.K X.mg X.base (L2.CX X.prog X.w) k fI fd ["self", f] (spI X.K f)) (hr : Room (k + 1) X.A) (hx : Passes (L2.CX X.prog X.w) X (fun _ _ _ => False))
    (hb : Binds X.K fd ["self", f] []) (hg : Gl X x) (ha : PE X e te) (hst : starEach [e] X.env = (false, eval e X.env) :: starEach [] X.env := by rfl) (hpl : (backTo pos (starEach ([] : List Expr) X.env)).any (·.1) = false := by rfl) (hdb : (x == ("__debug__" : Str)) = false := by decide) :
    PE X (.Call (.Name x p) [e] [] pos) (tExn C f te) := by
  refine ⟨fun pins s σ H Q I h => wpAny_Call_Name_kw (ld_glob I hg T.gC ?_ hdb)⟩
  refine PySem.W.callWith_K (h₀ := X.base) I.ok.mod.kin T.ox.kC (thn ((pa_cons ha pa_nil hst).run pos pins s σ H (exnWs C f Q) I h) fun us s1 ⟨vs, H1, I1, r, q⟩ => ⟨I1.kIn, ?_⟩) hst hpl
  obtain ⟨y, rfl, q⟩ := exnWs_one q
  obtain ⟨u, rfl, r1⟩ := vals1 r
  have bt : ∀ (s : Shared) (p : Value), X.K.In s.heap → BindsTo s fd ⟨[p, u], []⟩ ((["self", f] : List Str).zip [p, u]) := fun s p h => hb s [p, u] h rfl
  have hz : [u].length ≤ sizeLine := one_line
  exact exn_run (us := [u]) (kw := []) T.ox T.nf T.iC T.tI F hr hx hz bt I1 r1 q
end
end Vm

set_option Elab.async false
set_option linter.all false
set_option maxRecDepth 100000
set_option maxHeartbeats 4100000
namespace Vm
open L2 PyProof.Rows PySem PySem.Spec
section
variable {X : Cx} {g : Gc} {W : WX} {A : Me} {e : Expr} {pos : Pos} {pins : List (Addr × Obj)} {σ : L2.St} {H : Hp} {s : Shared}
theorem pe_exnK {C fI : Addr} {x f : Str} {fd : FuncData} {k : Nat} {te : TE} {p kp : Pos} (T : Xc1 X.K X.mg x f C fI) (F : FnOk X.prog X.w X.K X.mg X.base (L2.CX X.prog X.w) k fI fd ["self", f] (spI X.K f)) (hr : Room (k + 1) X.A) (hx : Passes (L2.CX X.prog X.w) X (fun _ _ _ => False))
    (hb : ∀ (s : Shared) (p u : Value), X.K.In s.heap → BindsTo s fd ⟨[p], [(f, u)]⟩ ((["self", f] : List Str).zip [p, u])) (hg : Gl X x) (ha : PE X e te) (hdb : (x == ("__debug__" : Str)) = false := by decide)
    (hall : (backToKw pos (keywordEach [⟨some f, e, kp⟩] X.env)).all (·.1.isSome) = true := by rfl) (hks : (backToKw pos (keywordEach [⟨some f, e, kp⟩] X.env)).filterMap (·.1) = [f] := by rfl)
    (hpl : ((backTo pos (starEach [] X.env)).any (·.1) || (backToKw pos (keywordEach [⟨some f, e, kp⟩] X.env)).any (·.1.isNone)) = false := by rfl) :
    PE X (.Call (.Name x p) [] [⟨some f, e, kp⟩] pos) (tExn C f te) := by
  refine ⟨fun pins s σ H Q I h => wpAny_Call_Name_kw (ld_glob I hg T.gC ?_ hdb)⟩
  refine PySem.W.callWith_KW0 (h₀ := X.base) I.ok.mod.kin T.ox.kC hall (thn ((pk_cons ha pk_nil).run pos pins s σ H (exnWs C f Q) I h) fun us s1 ⟨vs, H1, I1, r, q⟩ => ⟨I1.kIn, ?_⟩) hpl
  rw [hks]
  obtain ⟨y, rfl, q⟩ := exnWs_one q
  obtain ⟨u, rfl, r1⟩ := vals1 r
  have bt : ∀ (s : Shared) (p : Value), X.K.In s.heap → BindsTo s fd ⟨[p], [(f, u)]⟩ ((["self", f] : List Str).zip [p, u]) := fun s p h => hb s p u h
  have hz : ([] : List Value).length ≤ sizeLine := Nat.zero_le _
  exact exn_run (us := []) (kw := [(f, u)]) T.ox T.nf T.iC T.tI F hr hx hz bt I1 r1 q
end
end Vm

set_option Elab.async false
set_option linter.all false
set_option maxRecDepth 100000
set_option maxHeartbeats 4100000
namespace Vm
open L2 PyProof.Rows PySem PySem.Spec
section
variable {X : Cx} {g : Gc} {W : WX} {A : Me} {e : Expr} {pos : Pos} {pins : List (Addr × Obj)} {σ : L2.St} {H : Hp} {s : Shared}
/-- X(), no own __init__ -/
def tExn0 (C : Addr) : TE := fun σ H Q => ∀ a, H a = none → Q (.ref a) (upd H a (exo a C none))
theorem pe_exn0 {C : Addr} {x : Str} {p : Pos} (T : Xc0 X.K X.mg x C) (hg : Gl X x) (hdb : (x == ("__debug__" : Str)) = false := by decide) : PE X (.Call (.Name x p) [] [] pos) (tExn0 C) := by
  refine ⟨fun pins s σ H Q I h => wpAny_Call_Name_kw (ld_glob I hg T.gC (PySem.W.callWith_K0 I.kIn T.kC ?_) hdb)⟩
  show wpAny _ _ (call (.ref C) []) _ _ _
  obtain ⟨bm, N, nm, qn, bs, hdct, sn, sub, ab, col, dd, k0, k1, k2, k3, k5, mN, hC, hN, hni, Z⟩ := exc_obj I.kIn T.xP
  refine wpAny_call_exc_subT PySem.F.excBase_ValueError Z hC hN hni (fun h' a hm => ?_) (Nat.zero_le _)
  have hn : H a = none := I.hok.gone hm.new
  obtain ⟨t, ht, _, _⟩ := hm.there; exact ⟨.ref a, _, I.laidN hm.keeps hm.new hn (exo_ok ht), rfl, h a hn⟩
end
end Vm

set_option Elab.async false
set_option linter.all false
set_option maxRecDepth 100000
set_option maxHeartbeats 4100000
namespace Vm
open L2 PyProof.Rows PySem PySem.Spec
section
variable {X : Cx} {g : Gc} {W : WX} {A : Me} {e : Expr} {pos : Pos} {pins : List (Addr × Obj)} {σ : L2.St} {H : Hp} {s : Shared}
/-- mirrors -/
def mExn (c : Nat) (f : Str) (a : Me) : Me := fun s h => (a s h).bind fun u h1 => newO (.exc c [(f, u)]) h1
def mExn0 (c : Nat) : Me := fun _ h => newO (.exc c []) h
theorem exn_read {c : Nat} {f : Str} {σ : L2.St} {Q : VK} (q : At g (Rl g) (mExn c f A) (WE W σ) σ H Q) : tExn (g.cl c) f (Vm.T g W A) σ H Q := by
  refine At.seq (rel := Rl g) q fun ρ1 u s h1 y H1 hs1 c1 r1 p1 a dx ha hd hne => ?_
  have c2 : Cs g ρ1 h1 (upd H1 dx (exd dx [(f, y)])) := c1.skip hd
  have ha2 : upd H1 dx (exd dx [(f, y)]) a = none := by rw [upd_ne (Ne.symm hne)]; exact ha
  exact Post.made p1 c2 ha2 (.inr ⟨dx, [(f, y)], .cons ⟨rfl, Rl.mono (pre_snoc _ _) r1⟩ .nil, upd_same, by rw [upd_ne hne, upd_same]⟩)
theorem e_exnP {c : Nat} {fI : Addr} {x f : Str} {fd : FuncData} {k : Nat} {p : Pos} (T : Xc1 X.K X.mg x f (g.cl c) fI) (F : FnOk X.prog X.w X.K X.mg X.base (L2.CX X.prog X.w) k fI fd ["self", f] (spI X.K f)) (hr : Room (k + 1) X.A) (hx : Passes (L2.CX X.prog X.w) X (fun _ _ _ => False))
    (hb : Binds X.K fd ["self", f] []) (hg : Gl X x) (ha : PE X e (Vm.T g W A)) (hst : starEach [e] X.env = (false, eval e X.env) :: starEach [] X.env := by rfl) (hpl : (backTo pos (starEach ([] : List Expr) X.env)).any (·.1) = false := by rfl) (hdb : (x == ("__debug__" : Str)) = false := by decide) :
    PE X (.Call (.Name x p) [e] [] pos) (Vm.T g W (mExn c f A)) := PE.im (pe_exnP T F hr hx hb hg ha hst hpl hdb) fun _ _ _ q => exn_read q
theorem e_exnK {c : Nat} {fI : Addr} {x f : Str} {fd : FuncData} {k : Nat} {p kp : Pos} (T : Xc1 X.K X.mg x f (g.cl c) fI) (F : FnOk X.prog X.w X.K X.mg X.base (L2.CX X.prog X.w) k fI fd ["self", f] (spI X.K f)) (hr : Room (k + 1) X.A) (hx : Passes (L2.CX X.prog X.w) X (fun _ _ _ => False))
    (hb : ∀ (s : Shared) (p u : Value), X.K.In s.heap → BindsTo s fd ⟨[p], [(f, u)]⟩ ((["self", f] : List Str).zip [p, u])) (hg : Gl X x) (ha : PE X e (Vm.T g W A)) (hdb : (x == ("__debug__" : Str)) = false := by decide)
    (hall : (backToKw pos (keywordEach [⟨some f, e, kp⟩] X.env)).all (·.1.isSome) = true := by rfl) (hks : (backToKw pos (keywordEach [⟨some f, e, kp⟩] X.env)).filterMap (·.1) = [f] := by rfl)
    (hpl : ((backTo pos (starEach [] X.env)).any (·.1) || (backToKw pos (keywordEach [⟨some f, e, kp⟩] X.env)).any (·.1.isNone)) = false := by rfl) :
    PE X (.Call (.Name x p) [] [⟨some f, e, kp⟩] pos) (Vm.T g W (mExn c f A)) := PE.im (pe_exnK T F hr hx hb hg ha hdb hall hks hpl) fun _ _ _ q => exn_read q
theorem e_exn0 {c : Nat} {x : Str} {p : Pos} (T : Xc0 X.K X.mg x (g.cl c)) (hg : Gl X x) (hdb : (x == ("__debug__" : Str)) = false := by decide) : PE X (.Call (.Name x p) [] [] pos) (Vm.T g W (mExn0 c)) :=
  PE.im (pe_exn0 T hg hdb) fun σ H Q ⟨ρ, s, h, hs, cs, p⟩ a ha => Post.made p cs ha (.inl ⟨rfl, upd_same⟩)
end
end Vm

set_option Elab.async false
set_option linter.all false
set_option maxRecDepth 100000
set_option maxHeartbeats 4100000
namespace Vm
open L2 PyProof.Rows PySem PySem.Spec
section
variable {X : Cx} {g : Gc} {W : WX} {A : Me} {e : Expr} {pos : Pos} {ρ : List Addr} {h : Mh} {H : Hp}
/-! ### fields of exceptions, isinstance of them -/
def excOf (u : U) (h : Mh) : Option (Nat × List (Str × U)) := match u with
  | .loc n => match h[n]? with
    | some (.exc c fs) => some (c, fs)
    | _ => none
  | _ => none
theorem excOf_ok {u : U} {v : V} {c : Nat} {fs : List (Str × U)} (cs : Cs g ρ h H) (r : Rl g ρ u v) (e : excOf u h = some (c, fs)) :
    ∃ a, v = .ref a ∧ ((fs = [] ∧ H a = some (exo a (g.cl c) none)) ∨ ∃ dx gs, Rf g ρ fs gs ∧ H a = some (exo a (g.cl c) (some dx)) ∧ H dx = some (exd dx gs)) := by
  cases u with
  | loc n =>
    obtain ⟨a, q, rfl⟩ := r
    simp only [excOf] at e
    split at e
    · rename_i c' fs' en
      cases e
      exact ⟨a, rfl, cs.at_ n _ a en q⟩
    · cases e
  | _ => cases e
def tExnF (K : PySem.W.Frag) (n : Str) (te : TE) : TE := fun σ H Q => te σ H fun x H1 => ∃ (a C dx : Addr) (fs : List (Str × V)) (v : V), x = .ref a ∧ XfC K C ∧ PySem.W.findIn K (.ref C) n = some none ∧ H1 a = some (exo a C (some dx)) ∧ H1 dx = some (exd dx fs) ∧ fs.lookup n = some v ∧ Q v H1
theorem pe_exnF {n : Str} {te : TE} (he : PE X e te) (hb : attributeBase e n X.env (eval e X.env) = eval e X.env := by rfl) : PE X (.Attribute e n pos) (tExnF X.K n te) := by
  refine ⟨fun pins s σ H Q I h => attr_of hb (thn (he.run pins s σ H _ I h) fun u s1 hh => ?_)⟩
  obtain ⟨x, H1, I1, rx, a, C, dx, fs, v, rfl, T, hno, ea, ed, l, q⟩ := hh
  obtain rfl : u = Value.ref a := rx; obtain ⟨t1, ho⟩ := exo_at I1.hok ea
  obtain ⟨mA, hns, hr⟩ := exd_at I1.hok ed
  obtain ⟨od, hd, hl⟩ := lookIn_ns hns
  obtain ⟨w, hw, rw'⟩ := RelO.some_of (v := v) (o := mA n) (by rw [← l]; exact hr n)
  have J : PySem.W.InstAt s1.heap a { cls := .ref C, dict := some dx, data := .fields #[.ref t1, .none, .none, .none, .bool false, .none] } C (some od) := ⟨ho, rfl, rfl, hd⟩
  exact PySem.HandSPX.exc_get I1.kIn J T.ga T.gg T.exC (PySem.W.findObj_own T.hdC hno rfl (by rw [hl, hw])) (handed_of rw') ⟨v, H1, I1.tok _, rw', q⟩
/-- ok: the classes whose instances may be asked -/
def mExnF (ok : Nat → Bool) (n : Str) (a : Me) : Me := fun s h => (a s h).bind fun u h1 => match excOf u h1 with
  | some (c, fs) => if ok c then (match fs.lookup n with | some w => .ok w h1 | none => .stuck) else .stuck
  | none => .stuck
theorem e_exnF {ok : Nat → Bool} {n : Str} (T : ∀ c, ok c = true → XfC X.K (g.cl c) ∧ PySem.W.findIn X.K (.ref (g.cl c)) n = some none) (he : PE X e (Vm.T g W A)) (hb : attributeBase e n X.env (eval e X.env) = eval e X.env := by rfl) :
    PE X (.Attribute e n pos) (Vm.T g W (mExnF ok n A)) := by
  refine PE.im (pe_exnF he hb) fun σ H Q q => At.seq (rel := Rl g) q fun ρ1 u s h1 v H1 hs1 c1 r1 p1 => ?_
  cases ee : excOf u h1 with
  | none => rw [ee] at p1; exact p1.elim
  | some cf =>
    obtain ⟨c, fs⟩ := cf
    rw [ee] at p1
    simp only at p1
    obtain ⟨a, rfl, z⟩ := excOf_ok c1 r1 ee
    cases hk : ok c with
    | false => rw [hk] at p1; exact p1.elim
    | true =>
      rw [hk, if_pos rfl] at p1
      cases el : fs.lookup n with
      | none => rw [el] at p1; exact p1.elim
      | some w =>
        rw [el] at p1
        rcases z with ⟨rfl, _⟩ | ⟨dx, gs, rf, ea, ed⟩
        · cases el
        · obtain ⟨vv, ev, rv⟩ := Rf.look rf el
          exact ⟨a, g.cl c, dx, gs, vv, rfl, (T c hk).1, (T c hk).2, ea, ed, ev, Post.here (rel := Rl g) p1 c1 rv⟩
/-- an exception of the class C stands at a -/
def ExAt (H : Hp) (C a : Addr) : Prop := H a = some (exo a C none) ∨ ∃ dx gs, H a = some (exo a C (some dx)) ∧ H dx = some (exd dx gs)
theorem ExAt.inst {X : Cx} {pins : List (Addr × Obj)} {σ : L2.St} {s : Shared} {C a : Addr} (I : Inv X pins σ H s) (z : ExAt H C a) : ∃ ox od, PySem.W.InstAt s.heap a ox C od := by
  rcases z with ea | ⟨dx, gs, ea, ed⟩
  · obtain ⟨t1, ho⟩ := exo_at I.hok ea
    exact ⟨_, none, ho, rfl, rfl, trivial⟩
  · obtain ⟨t1, ho⟩ := exo_at I.hok ea
    obtain ⟨mA, hns, _⟩ := exd_at I.hok ed
    obtain ⟨od, hd, _⟩ := lookIn_ns hns
    exact ⟨_, some od, ho, rfl, rfl, hd⟩
theorem cls_some {K : PySem.W.Frag} {C : Addr} (h : PySem.W.hasDictIn K C = true) : (PySem.W.clsIn K C).isSome = true := by
  obtain ⟨cd, hc, _⟩ := PySem.W.any_some h
  rw [hc] <;> rfl
/-- isinstance(x, C), x an exception -/
def rIsX (K : PySem.W.Frag) : List V → Hp → VK → Prop := fun xs H Q => ∃ (a C : Addr) (c : V) (cv : Value) (b : Bool), xs = [.ref a, c] ∧ ExcC K C ∧ ExAt H C a ∧ (∀ u, RelV c u → u = cv) ∧ PySem.W.kitOne K (.ref C) cv = some b ∧ Q (.bl b) H
theorem call_isX : CallR X (.builtin "isinstance") (rIsX X.K) := by
  intro pins s σ H xs us Q I r ⟨a, C, c, cv, b, ex, T, ea, hc, k, q⟩
  subst ex
  obtain ⟨u1, u2, rfl, r1, r2⟩ := vals2 r; obtain rfl : u1 = Value.ref a := r1
  obtain rfl := hc _ r2
  obtain ⟨ox, od, J⟩ := ea.inst I
  exact PySem.W.kia_one (PySem.W.kitx_exc (cls_some T.hd) T.hg T.hk T.hs T.ha T.hn T.ht T.hm) I.kIn J k (fun z => nomatch z) fun tk => ⟨.bl b, H, I.tok tk, rfl, q⟩
/-- isinstance(x, (C1, ..)) -/
def rIsXT (K : PySem.W.Frag) : List V → Hp → VK → Prop := fun xs H Q => ∃ (a C : Addr) (tp : Addr) (cs : List V) (ws : List Value) (b : Bool), xs = [.ref a, .ref tp] ∧ ExcC K C ∧ ExAt H C a ∧ H tp = some (.tup cs) ∧ Paired ClsV cs ws ∧ PySem.W.kitAny K (.ref C) ws = some b ∧ Q (.bl b) H
theorem call_isXT : CallR X (.builtin "isinstance") (rIsXT X.K) := by
  intro pins s σ H xs us Q I r ⟨a, C, tp, cs, ws, b, ex, T, ea, hT, kc, k, q⟩
  subst ex
  obtain ⟨u1, u2, rfl, r1, r2⟩ := vals2 r; obtain rfl : u1 = Value.ref a := r1
  obtain rfl : u2 = Value.ref tp := r2
  obtain ⟨ox, od, J⟩ := ea.inst I
  obtain ⟨_, its, rv, o, h1, h2, n, h3⟩ := (show ObjOk X.prog X.w H s.heap tp (.tup cs) from I.hok tp _ hT); obtain rfl := ClsV.all kc rv
  obtain ⟨oc, od', dt, sl⟩ := o
  simp only at h2 h3
  subst h2 h3
  exact PySem.W.kia_tup (PySem.W.kitx_exc (cls_some T.hd) T.hg T.hk T.hs T.ha T.hn T.ht T.hm) I.kIn J h1 k (fun z => nomatch z) fun tk => ⟨.bl b, H, I.tok tk, rfl, q⟩
/-- tk: the answer, class by class -/
def mIsE (tk : Nat → Option Bool) (a : Me) : Me := fun s h => (a s h).bind fun u h1 => match excOf u h1 with
  | some (c, _) => (match tk c with | some b => .ok (.bl b) h1 | none => .stuck)
  | none => .stuck
theorem isE_read {tk : Nat → Option Bool} {u : U} {v : V} {E : XK} {Q : VK} (r : Rl g ρ u v) (cs : Cs g ρ h H) (p : Post g (Rl g) ρ (match excOf u h with | some (c, _) => (match tk c with | some b => R.ok (.bl b) h | none => .stuck) | none => .stuck) Q E) :
    ∃ a c b, v = .ref a ∧ tk c = some b ∧ ExAt H (g.cl c) a ∧ Post g (Rl g) ρ (R.ok (.bl b) h) Q E := by
  cases ee : excOf u h with
  | none => rw [ee] at p; exact p.elim
  | some cf =>
    obtain ⟨c, fs⟩ := cf
    rw [ee] at p
    simp only at p
    obtain ⟨a, rfl, z⟩ := excOf_ok cs r ee
    cases hk : tk c with
    | none => rw [hk] at p; exact p.elim
    | some b =>
      rw [hk] at p
      rcases z with ⟨_, ea⟩ | ⟨dx, gs, _, ea, ed⟩
      · exact ⟨a, c, b, rfl, hk, .inl ea, p⟩
      · exact ⟨a, c, b, rfl, hk, .inr ⟨dx, gs, ea, ed⟩, p⟩
theorem e_isE {tk : Nat → Option Bool} {p pc : Pos} {x : Str} {vc : V} {cv : Value} (hg : Gl X "isinstance") (hm : X.mg "isinstance" = none) (hc : PE X (.Name x pc) (tC vc)) (hv : ∀ u, RelV vc u → u = cv) (T : ∀ c b, tk c = some b → ExcC X.K (g.cl c) ∧ PySem.W.kitOne X.K (.ref (g.cl c)) cv = some b) (he : PE X e (Vm.T g W A))
    (hst : starEach [e, .Name x pc] X.env = (false, eval e X.env) :: starEach [.Name x pc] X.env := by rfl) (hst2 : starEach [Expr.Name x pc] X.env = (false, eval (.Name x pc) X.env) :: starEach [] X.env := by rfl)
    (hpl : (backTo pos (starEach [Expr.Name x pc] X.env)).any (·.1) = false := by rfl) :
    PE X (.Call (.Name "isinstance" p) [e, .Name x pc] [] pos) (Vm.T g W (mIsE tk A)) := by
  refine PE.im (pe_callB call_isX hg hm PyProof.Rows.boot_isinstance (pa_cons he (pa_cons hc pa_nil hst2) hst) (by decide) (by decide) hst hpl) fun σ H Q q => At.seq (rel := Rl g) q fun ρ1 u s h1 v H1 hs1 c1 r1 p1 => ?_
  obtain ⟨a, c, b, rfl, hk, ea, p2⟩ := isE_read r1 c1 p1
  exact ⟨a, g.cl c, vc, cv, b, rfl, (T c b hk).1, ea, hv, (T c b hk).2, Post.here (rel := Rl g) p2 c1 rfl⟩
def tConst (vs : List V) : TA := fun σ H Q => Q vs H
theorem e_isET {tk : Nat → Option Bool} {p tpos : Pos} {es : List Expr} {x1} {vs : List V} {ws : List Value} (hg : Gl X "isinstance") (hm : X.mg "isinstance" = none) (hc : PA X es (tConst vs)) (hv : Paired ClsV vs ws) (hl : vs.length ≤ 100000) (T : ∀ c b, tk c = some b → ExcC X.K (g.cl c) ∧ PySem.W.kitAny X.K (.ref (g.cl c)) ws = some b) (he : PE X e (Vm.T g W A))
    (hst : starEach [e, .Tuple es x1 tpos] X.env = (false, eval e X.env) :: starEach [.Tuple es x1 tpos] X.env := by rfl) (hst2 : starEach [Expr.Tuple es x1 tpos] X.env = (false, eval (.Tuple es x1 tpos) X.env) :: starEach [] X.env := by rfl)
    (hpl : (backTo pos (starEach [Expr.Tuple es x1 tpos] X.env)).any (·.1) = false := by rfl) :
    PE X (.Call (.Name "isinstance" p) [e, .Tuple es x1 tpos] [] pos) (Vm.T g W (mIsE tk A)) := by
  refine PE.im (pe_callB call_isXT hg hm PyProof.Rows.boot_isinstance (pa_cons he (pa_cons (pe_tup hc) pa_nil hst2) hst) (by decide) (by decide) hst hpl) fun σ H Q q => At.seq (rel := Rl g) q fun ρ1 u s h1 v H1 hs1 c1 r1 p1 => ?_
  obtain ⟨a, c, b, rfl, hk, ea, p2⟩ := isE_read r1 c1 p1
  refine ⟨big_line hl, fun tp ht => ?_⟩
  have ea' : ExAt (upd H1 tp (.tup vs)) (g.cl c) a := by
    rcases ea with ea | ⟨dx, gs, ea, ed⟩
    · refine .inl ?_
      rw [upd_ne fun z => by rw [z, ht] at ea; cases ea]
      exact ea
    · refine .inr ⟨dx, gs, ?_, ?_⟩
      · rw [upd_ne fun z => by rw [z, ht] at ea; cases ea]
        exact ea
      · rw [upd_ne fun z => by rw [z, ht] at ed; cases ed]
        exact ed
  exact ⟨a, g.cl c, tp, vs, ws, b, rfl, (T c b hk).1, ea', upd_same, hv, (T c b hk).2, Post.here (rel := Rl g) p2 (c1.skip ht) rfl⟩
end
end Vm

set_option Elab.async false
set_option linter.all false
set_option maxRecDepth 100000
set_option maxHeartbeats 4100000
namespace Vm
open L2 PyProof.Rows PySem PySem.Spec
/-! ### the law's own entry, where nothing is being shown as text -/
section
variable {P : Program} {w : World} {K : PySem.W.Frag} {base : Heap} {mg : Str → Option Value}
/-- one call of a def, from the around it has -/
theorem fn_at {x qual : Str} {st : Stmt} {f : Addr} {fd : FuncData} {N ps : List Str} {k : Nat} {A : Around} {outer : List Env} {s : Shared} {H : Hp} {args : Args} {us : List Value} {vs : List V} {Q : VK} {E : XK} (F : Fun K x qual st f fd) (S : FnScope N ps (defScope st)) (hr : Room (k + 1) A) (e0 : Env0 P w K mg base A outer s H)
    (hb : BindsTo s fd args (ps.zip us)) (r : Vals vs us) (hl : vs.length = ps.length) (body : ∀ cdv : Value, Room k (A.deeper (envOfC qual (defScope st) s.heap.objs.size f cdv)) →
      ∃ t, PSs (cxOf (L2.CX P w) P w K mg base N qual (defScope st) f cdv A outer s H E) (defBody st) t ∧ t { nx := fun _ H' => Q .non H', rt := Q } (L2.start N vs) H) : codeAny (model P w) A (.call (.ref f) args) (CR (L2.CX P w) outer P w H s Q E) s := by
  obtain ⟨oc, od, kV, doc, pm, an, cdv, ct, osl, rfl, lk, hcd⟩ := F.ex; have old : ∀ b o, base.get? b = some o → s.heap.get? b = some o := fun b o e => (e0.bs b o e).1
  refine Att.call_fn (e0.mod.kin.keeps old) (e0.mod.nolimit.keeps old) lk hcd hr.depth hb ?_ ?_ S.co S.gen S.kind
  · refine List.all_eq_true.mpr fun ⟨n, v⟩ hy => ?_; rcases S.par n (List.of_mem_zip hy).1 with q | q
    · simp only [q]; decide
    · simp only [q]; decide
  · intro s1 ic
    obtain ⟨t, ht, hq⟩ := body cdv (hr.deeper _)
    refine wpAny_mono (ht.run [] s1 _ H _ (inv_start S hr.hd e0 hl r ic) hq) (fun fl s' z => ?_) fun e s' z => z
    cases fl with
    | ret u =>
      obtain ⟨v, σ', H', J, rv, q⟩ := z
      exact ⟨v, H', J.os, J.bare, J.base, J.hok, rv, q⟩
    | next =>
      obtain ⟨σ', H', J, q⟩ := z
      exact ⟨V.non, H', J.os, J.bare, J.base, J.hok, rfl, q⟩
    | brk => exact z.choose_spec.choose_spec.2.elim
    | cont => exact z.choose_spec.choose_spec.2.elim
variable {s : Shared} {fa a : Addr} {vs : List Value} {ns : List Int}
/-- what is wanted of the call -/
def Good (s : Shared) : Result → Shared → Prop := fun r s' => r = .ok (.ret (.bool true)) ∧ OldK s.heap s'.heap ∧ s'.os = s.os ∧ AllBare s'.gens
/-- the end of a call that began at H -/
theorem good_of {H : Hp} {r : Result} {s' : Shared} (hO : Only H) (h0 : HOk P w H s.heap) (z : CR (L2.CX P w) [] P w H s (fun v _ => v = .bl true) (fun _ _ _ => False) r s') : Good s r s' := by
  cases r with
  | error e =>
    obtain ⟨_, _, _, _, _, _, _, _, _, _, _, _, z⟩ := z
    exact z.elim
  | ok fl =>
    cases fl with
    | next => exact z.elim
    | brk => exact z.elim
    | cont => exact z.elim
    | ret u =>
      obtain ⟨v, H', os, bare, un, hok, rv, q⟩ := z
      have q' : v = .bl true := q
      subst q'
      have ru : u = Value.bool true := rv
      subst ru
      refine ⟨rfl, OldK.of_keep fun b o e => ?_, os, bare⟩; cases hb : H b with
      | none => exact un.keep b o e hb (fun z => nomatch z) (fun z => nomatch z)
      | some x =>
        rcases hO b with n | ⟨ob, xs, n⟩
        · rw [n] at hb; cases hb
        · have g0 : s.heap.get? b = some ob := (h0 b _ n).1
          have g1 : s'.heap.get? b = some ob := (hok b _ (un.frzs b ob _ n)).1
          rw [g1, ← g0, e]
/-- H tracks nothing but the script, if that -/
theorem env_of {H : Hp} (KX : K.In s.heap) (hns : s.heap.Ns mainGlobals mg) {mb : Str → Option Value} (hb : s.heap.Ns builtinsNs mb) (hbb : ∀ x : Str, x ≠ "__name__" → mb x = bootBuiltins x) (hlim : s.heap.NoLimit) (hg : s.gens = #[]) (ha : s.heap.get? a = some { cls := .type "list", data := .seq vs.toArray })
    (hok : HOk P w H s.heap) (hA : ∀ b, H b ≠ none → b = a) (hK : H a ≠ none → K.lookup a = none) : ∃ base : Heap, K.In base ∧ base.Ns mainGlobals mg ∧ Env0 P w K mg base callerA [] s H := by
  have at_a : ∀ {b : Addr} {u : HO}, H b = some u → b = a := fun {b u} e => hA b (by rw [e]; exact fun z => nomatch z)
  have dicts : ∀ {b : Addr} {o : Obj} {es : Array DictEntry} {ep : Nat}, s.heap.get? b = some o → o.data = .dict es ep → H b = none := fun {b o es ep} e d => by
    cases q : H b with
    | none => rfl
    | some u =>
      obtain rfl := at_a q
      rw [ha] at e
      cases e
      cases d
  have nsB : ∀ {b : Addr} {m : Str → Option Value}, s.heap.Ns b m → (hidT s.heap H).Ns b m := fun {b m} z => by
    obtain ⟨o, es, ep, e, d, r⟩ := z
    exact ⟨o, es, ep, hidT_get e (dicts e d), d, r⟩
  have kB : K.In (hidT s.heap H) := fun b o e => hidT_get (KX b o e) (by
    cases q : H b with
    | none => rfl
    | some u =>
      obtain rfl := at_a q
      rw [hK (by rw [q]; exact fun z => nomatch z)] at e
      cases e)
  obtain ⟨mc, l1, l2⟩ := hlim
  exact ⟨_, kB, nsB hns, rfl, ⟨kB, nsB hns, ⟨mb, nsB hb, hbb⟩, ⟨mc, nsB l1, l2⟩⟩, fun b o e => of_hidT e, Nat.le_of_eq (hidT_size _ _), trivial, (fun b z => nomatch z), hok, .of_eq hg⟩
theorem law_at (KX : K.In s.heap) (hns : s.heap.Ns mainGlobals mg) {mb : Str → Option Value} (hb : s.heap.Ns builtinsNs mb) (hbb : ∀ x : Str, x ≠ "__name__" → mb x = bootBuiltins x) (hlim : s.heap.NoLimit) (hg : s.gens = #[]) (ha : s.heap.get? a = some { cls := .type "list", data := .seq vs.toArray }) (hi : IntsAre vs ns) (hl : ns.length ≤ sizeLine)
    (run : ∀ (base : Heap) (H : Hp), K.In base → base.Ns mainGlobals mg → Env0 P w K mg base callerA [] s H → Only H → SqL K H a (ns.map V.int) → codeAny (model P w) callerA (.call (.ref fa) ⟨[.ref a], []⟩) (CR (L2.CX P w) [] P w H s (fun v _ => v = .bl true) (fun _ _ _ => False)) s) :
    codeAny (model P w) callerA (.call (.ref fa) ⟨[.ref a], []⟩) (Good s) s := by
  have rv := vals_ints hi
  have lv := hi.length
  have go : ∀ H : Hp, HOk P w H s.heap → (∀ b, H b ≠ none → b = a) → (H a ≠ none → K.lookup a = none) → Only H → SqL K H a (ns.map V.int) → codeAny (model P w) callerA (.call (.ref fa) ⟨[.ref a], []⟩) (Good s) s := fun H hok hA hK hO hS => by
    obtain ⟨base, k1, k2, e0⟩ := env_of KX hns hb hbb hlim hg ha hok hA hK
    exact codeAny_mono (run base H k1 k2 e0 hO hS) fun r s' z => good_of hO hok z
  cases hk : K.lookup a with
  | some o =>
    have e := KX a o hk
    rw [ha] at e
    cases e
    exact go (fun _ => none) (fun b u z => nomatch z) (fun b z => absurd rfl z) (fun z => absurd rfl z) (fun _ => .inl rfl) (.inr ⟨_, vs.toArray, _, hk, rfl, rfl, rfl, by rw [List.size_toArray, lv]; exact hl, by simpa using rv⟩)
  | none =>
    have same : upd (fun _ => none) a (HO.frz { cls := .type "list", data := .seq vs.toArray } (.lst (ns.map V.int))) a = some (HO.frz { cls := .type "list", data := .seq vs.toArray } (.lst (ns.map V.int))) := upd_same
    have other : ∀ b, b ≠ a → upd (fun _ => none) a (HO.frz { cls := .type "list", data := .seq vs.toArray } (.lst (ns.map V.int))) b = none := fun b hb => upd_ne hb
    refine go (upd (fun _ => none) a (.frz { cls := .type "list", data := .seq vs.toArray } (.lst (ns.map V.int)))) (fun b u z => ?_) (fun b z => ?_) (fun _ => hk) (fun b => ?_) (.inl (.inr ⟨_, same⟩))
    · by_cases h : b = a
      · subst h
        rw [same] at z
        cases z; exact ⟨ha, by rw [List.length_map]; exact hl, vs, _, rv, ha⟩
      · rw [other b h] at z
        cases z
    · by_cases h : b = a
      · exact h
      · exact absurd (other b h) z
    · by_cases h : b = a
      · subst h
        exact .inr ⟨_, _, same⟩
      · exact .inl (other b h)
end
/-- the body of the law's def, from where nothing is being shown -/
def LawBody (P : Program) (w : World) (K : PySem.W.Frag) (mg : Str → Option Value) (base : Heap) (g : Gc) (qual : Str) (st : Stmt) (N : List Str) (f : Addr) (k : Nat) (m : Ms) : Prop :=
  ∀ (cdv : Value) (A : Around) (outer : List Env) (s : Shared) (H : Hp) (E : XK), A.guards = some [] → Room k (A.deeper (envOfC qual (defScope st) s.heap.objs.size f cdv)) →
    (cxOf (L2.CX P w) P w K mg base N qual (defScope st) f cdv A outer s H E).A.units + 65 < cLine →
    PassesOwn (model P w) (cxOf (L2.CX P w) P w K mg base N qual (defScope st) f cdv A outer s H E).A (cxOf (L2.CX P w) P w K mg base N qual (defScope st) f cdv A outer s H E).env (cxOf (L2.CX P w) P w K mg base N qual (defScope st) f cdv A outer s H E).xe →
    Takes (cxOf (L2.CX P w) P w K mg base N qual (defScope st) f cdv A outer s H E) (fun cls d _ H => E cls d H) →
    PSs (cxOf (L2.CX P w) P w K mg base N qual (defScope st) f cdv A outer s H E) (defBody st) (TSm g (fun cls d _ H => E cls d H) m)
theorem walk_lawG {l : PySem.W.OpenLaw} {q : Program} {loose : List Str} {XP : (Str → Option Value) → Heap → Prop} {YP : World → Heap → Prop} {d : DefRec} {K : Params → PySem.W.Frag} {k : Nat} {N : List Str} {m : List Int → Ms} (hn : l.most = some 63) (hdf : d.params.defaults = []) (hr : Room (k + 1) callerA)
    (hY : ∀ (w : World) (h : Heap), YP w h → (K w.params).In h) (yes : ∀ ns : List Int, ns.length ≤ 63 → Yes (runB N.length (m ns) [.scr] [])) (F : ∀ (w : World) (mg : Str → Option Value) (fa : Addr) (h : Heap), (K w.params).In h → h.Ns mainGlobals mg → mg d.name = some (.ref fa) →
      ∃ (fd : FuncData) (x qual : Str) (st : Stmt) (cl : Nat → Addr), Fun (K w.params) x qual st fa fd ∧ FnScope N ["script"] (defScope st) ∧ (∀ (s : Shared) (u : Value), BindsTo s fd ⟨[u], []⟩ [("script", u)]) ∧
        ∀ base : Heap, (K w.params).In base → base.Ns mainGlobals mg → ∀ g : Gc, g.K = K w.params → g.cl = cl → g.exn = none → LawBody l.prog w (K w.params) mg base g qual st N fa k (m g.ns)) : PySem.W.WalkO q loose XP YP l.row.toRowW d [] (fun f vs => PySem.call f vs) := by
  refine Att.attach_call hn hdf fun w s0 s1 mg mb fa o pm cd doc a vs ns G Y ho hd hcd hmg hobj hints hlen hg => ?_
  have KX := hY w _ Y
  obtain ⟨fd, x, qual, st, cl, Fn, S, bt, body⟩ := F w mg fa _ KX G.T.g hmg
  refine law_at KX G.T.g G.T.b G.T.builtins G.T.nolimit hg hobj hints (Nat.le_trans hlen (big_line (by decide))) fun base H k1 k2 e0 hO hS => ?_
  refine fn_at (us := [.ref a]) (vs := [.ref a]) Fn S hr e0 (bt s1 (.ref a)) (.cons rfl .nil) rfl fun cdv hr' => ?_
  refine ⟨_, body base k1 k2 ⟨cl, K w.params, a, ns, none⟩ rfl rfl rfl cdv callerA [] s1 H _ rfl hr' (by have := hr'.un; show (callerA.deeper (envOfC qual (defScope st) s1.heap.objs.size fa cdv)).units + 65 < cLine; omega) (passes_of rfl) (takes_of rfl rfl rfl rfl), ?_⟩
  refine run_read (g := ⟨cl, K w.params, a, ns, none⟩) (n := 1) (N := N) (m := m ns) (vs := [.ref a]) (Q := fun v _ => v = .bl true) (E := fun _ _ _ => False) ⟨rfl, [], [.scr], [], .cons rfl .nil, ⟨rfl, fun n o b e => (by simp at e), List.nodup_nil, scr_of hO hS, fun _ _ _ e => nomatch e⟩, ?_⟩
  have y := yes ns hlen
  cases e : runB N.length (m ns) [.scr] [] with
  | ok u h =>
    rw [e] at y
    cases u with
    | bl b =>
      cases b with
      | true => exact fun ρ' v H' _ _ r => r
      | false => exact y.elim
    | _ => exact y.elim
  | ex c f h => rw [e] at y; exact y.elim
  | stuck => rw [e] at y; exact y.elim
end Vm

set_option Elab.async false
set_option linter.all false
set_option maxRecDepth 100000
set_option maxHeartbeats 4100000
namespace Vm
open L2 PyProof.Rows PySem PySem.Spec
section
variable {X : Cx} {g : Gc} {W : WX} {A : Me} {L : Ml} {o e : Expr} {es : List Expr} {apos cpos pos : Pos}
/-! ### xs.count(y) -/
def rCntD (K : PySem.W.Frag) : V → List V → Hp → VK → Prop := fun x xs H Q => ∃ (a : Addr) (y : V) (d : PyData) (ds : List PyData), x = .ref a ∧ xs = [y] ∧ Dp K H (.ref a) (.list ds) ∧ Dp K H y d ∧ PyData.plainAll ds = true ∧ d.plain = true ∧ d.depth ≤ 60 ∧ Q (.int (ds.countP fun z => PyData.eqv z d : Nat)) H
theorem mt_countD (hu : X.A.units + 65 < cLine) : MtR X "list.count" (rCntD X.K) := by
  intro pins s σ H x xs v us Q I rx rxs ⟨a, y, d, ds, ex, exs, hl, hy, p1, p2, dp, q⟩
  subst ex exs
  obtain rfl : v = Value.ref a := rx; obtain ⟨u, rfl, ru⟩ := rxs.one
  obtain ⟨as, r1⟩ := Dp.reads I (.list ds) (.ref a) (.ref a) hl rfl
  obtain ⟨bs, r2⟩ := Dp.reads I d y u hy ru
  cases r1 with
  | list e1 e2 e3 e4 => exact SeqAt.count_list_data ⟨_, e1, e2, _, e3⟩ e4 r2 p1 p2 (by have := Nat.min_le_right (PyData.depthAll ds) d.depth; omega) ⟨.int _, H, I.tok _, ⟨_, rfl⟩, q⟩
def fCount : Fm := fun x us h => match us with
  | [u] => match rd h deep x, rd h deep u with
    | some (.list ds), some d => if PyData.plainAll ds && d.plain && decide (d.depth ≤ 60) then .ok (.int (ds.countP fun z => PyData.eqv z d : Nat)) h else .stuck
    | _, _ => .stuck
  | _ => .stuck
theorem s_count {K : PySem.W.Frag} : SMt g K "list" fCount (rCntD K) := fun E ρ x xs vx vs h H Q rx rs cs p => by
  unfold fCount at p
  split at p
  · rename_i u
    obtain ⟨v, rfl, r1⟩ := one_of rs
    split at p
    · rename_i ds d e1 e2
      split at p
      · rename_i c
        simp only [Bool.and_eq_true, decide_eq_true_eq] at c
        have dl := rd_dp (K := K) cs _ _ _ _ rx e1
        have dl2 := dl
        cases dl2 with
        | lst hs ha => exact ⟨_, v, d, ds, rfl, rfl, dl, rd_dp cs _ _ _ _ r1 e2, c.1.1, c.1.2, c.2, Post.here (rel := Rl g) p cs rfl⟩
      · exact p.elim
    · exact p.elim
  · exact p.elim
theorem e_count (hu : X.A.units + 65 < cLine) (ho : PE X o (T g W A)) (ha : PA X (e :: es) (TL g W L)) (b0 : attributeBase o "count" X.env (eval o X.env) = eval o X.env := by rfl)
    (b1 : ((backTo cpos (starEach (e :: es) X.env)).all (fun x => !x.1) && (backToKw cpos (keywordEach [] X.env)).all (fun x => x.1.isSome) && decide ((e :: es).length + ([] : List Keyword).length + (if ([] : List Keyword).isEmpty then 0 else 1) < 30)) = true := by rfl)
    (b2 : (apos.endLine == cpos.line) = true := by rfl) (b3 : starEach (e :: es) X.env = (false, eval e X.env) :: starEach es X.env := by rfl) (b4 : (backTo cpos (starEach es X.env)).any (·.1) = false := by rfl) :
    PE X (.Call (.Attribute o "count" apos) (e :: es) [] cpos) (T g W (mMtL fCount A L)) := e_mtL PySem.F.slot_list_count PySem.F.type_list_count (mt_countD hu) s_count ho ha b0 b1 b2 b3 b4
/-! ### f() -/
def mCall0 (d : List U → Mh → R U) : Me := fun _ h => match d [] h with
  | .ok u h1 => .ok u h1
  | _ => .stuck
theorem e_call0 {k : Nat} {f : Addr} {fd : FuncData} {d : List U → Mh → R U} {x : Str} {p : Pos} (F : FnOk X.prog X.w X.K X.mg X.base (L2.CX X.prog X.w) k f fd [] (spM g 0 d)) (hr : Room k X.A) (hg : Gl X x) (hm : X.mg x = some (.ref f)) (hk : PySem.W.keepIn X.K (.ref f) = true) (hb : Binds X.K fd [] []) (hdb : (x == ("__debug__" : Str)) = false := by decide) :
    PE X (.Call (.Name x p) [] [] pos) (T g W (mCall0 d)) := by
  refine PE.im (pe_call0 (E := E0) (dvs := []) F hr hg hm hk hb .nil passL hdb) fun σ H Q ⟨ρ, s, h, hs, cs, z⟩ => ⟨rfl, ρ, [], h, .nil, cs, ?_⟩
  unfold mCall0 at z
  cases ed : d [] h with
  | ok u h1 => rw [ed] at z; exact z
  | ex c f h1 => rw [ed] at z; exact z.elim
  | stuck => rw [ed] at z; exact z.elim
end
end Vm

set_option Elab.async false
set_option linter.all false
set_option maxRecDepth 100000
set_option maxHeartbeats 4100000
namespace Vm
open L2 PyProof.Rows PySem PySem.Spec
/-! ### a module's own exception classes, all at once -/
/-- the def within a class's body -/
def clsS (st : Stmt) : Stmt := match st with
  | .ClassDef _ _ _ body .. => body.getD 0 (.Pass ⟨0, 0, 0, 0⟩)
  | _ => .Pass ⟨0, 0, 0, 0⟩
/-- a class whose __init__ keeps one argument -/
def Xcf (P : Program) (w : World) (K : PySem.W.Frag) (mg : Str → Option Value) (base : Heap) (x f : Str) (C : Addr) : Prop :=
  ∃ fI fd, Xc1 K mg x f C fI ∧ FnOk P w K mg base (L2.CX P w) 1 fI fd ["self", f] (spI K f) ∧ Binds K fd ["self", f] [] ∧ ∀ (s : Shared) (p u : Value), K.In s.heap → BindsTo s fd ⟨[p], [(f, u)]⟩ ((["self", f] : List Str).zip [p, u])
section
variable {X : Cx} {g : Gc} {W : WX} {A : Me} {M : Ms} {e : Expr} {pos : Pos}
theorem e_xP {c : Nat} {x f : Str} {p : Pos} (T : Xcf X.prog X.w X.K X.mg X.base x f (g.cl c)) (hr : Room 2 X.A) (hg : Gl X x) (ha : PE X e (Vm.T g W A)) (hst : starEach [e] X.env = (false, eval e X.env) :: starEach [] X.env := by rfl) (hpl : (backTo pos (starEach ([] : List Expr) X.env)).any (·.1) = false := by rfl) (hdb : (x == ("__debug__" : Str)) = false := by decide) :
    PE X (.Call (.Name x p) [e] [] pos) (Vm.T g W (mExn c f A)) := by
  obtain ⟨fI, fd, T1, F, b, _⟩ := T
  exact e_exnP T1 F hr passL b hg ha hst hpl hdb
theorem e_xK {c : Nat} {x f : Str} {p kp : Pos} (T : Xcf X.prog X.w X.K X.mg X.base x f (g.cl c)) (hr : Room 2 X.A) (hg : Gl X x) (ha : PE X e (Vm.T g W A)) (hdb : (x == ("__debug__" : Str)) = false := by decide)
    (hall : (backToKw pos (keywordEach [⟨some f, e, kp⟩] X.env)).all (·.1.isSome) = true := by rfl) (hks : (backToKw pos (keywordEach [⟨some f, e, kp⟩] X.env)).filterMap (·.1) = [f] := by rfl)
    (hpl : ((backTo pos (starEach [] X.env)).any (·.1) || (backToKw pos (keywordEach [⟨some f, e, kp⟩] X.env)).any (·.1.isNone)) = false := by rfl) :
    PE X (.Call (.Name x p) [] [⟨some f, e, kp⟩] pos) (Vm.T g W (mExn c f A)) := by
  obtain ⟨fI, fd, T1, F, _, b⟩ := T
  exact e_exnK T1 F hr passL b hg ha hdb hall hks hpl
theorem s_xR {c : Nat} {x f : Str} {p p2 : Pos} (hc : X.calm = true) (tk : Takes X W) (T : Xcf X.prog X.w X.K X.mg X.base x f (g.cl c)) (hr : Room 2 X.A) (hg : Gl X x) (ha : PE X e (Vm.T g W A)) (hst : starEach [e] X.env = (false, eval e X.env) :: starEach [] X.env := by rfl) (hpl : (backTo pos (starEach ([] : List Expr) X.env)).any (·.1) = false := by rfl) (hdb : (x == ("__debug__" : Str)) = false := by decide) :
    PS X (.Raise (some (.Call (.Name x p) [e] [] pos)) none p2) (TSm g W (sRaise1 c f A)) := by
  obtain ⟨fI, fd, T1, F, b, _⟩ := T
  exact s_raise1 hc tk passL T1 F hr b hg ha hst hpl hdb
end
theorem oex_mk {K : PySem.W.Frag} {C N : Addr} {nm q : Str} {bs bm : List Value} {sn : List Str} {sub : List Value} {ab : Bool} {col : Option Bool} {dd : Option Addr} {k0 k1 k2 k3 k5 : Option Value} (lk : K.lookup C = some (excClassObj nm q C N bs bm true sn sub ab col dd k0 k1 k2 k3 k5 "ValueError.__new__")) (r : PySem.HandSPX.refsVE bm = true)
    (sa : PySem.W.findIn K (.ref C) "__setattr__" = some (some (.builtin "object.__setattr__"))) (ex : PySem.W.subIn K (.ref C) (.type "BaseException") = some true) (ty : PySem.W.typeIn K (.ref C) = some (.type "type")) (k : PySem.W.keepIn K (.ref C) = true) : OexC K C :=
  ⟨⟨nm, q, N, bs, bm, sn, sub, ab, col, dd, k0, k1, k2, k3, k5, lk, r⟩, sa, ex, ty, k⟩
/-- what is asked of the classes at all, by looking -/
def exB (K : PySem.W.Frag) (C : Addr) : Bool :=
  decide (PySem.W.findIn K (.ref C) "__getattribute__" = some (some (.builtin "BaseException.__getattribute__"))) && decide (PySem.W.findIn K (.ref C) "__getattr__" = some none) && decide (PySem.W.subIn K (.ref C) (.type "BaseException") = some true) && PySem.W.hasDictIn K C &&
  decide (PySem.W.findIn K (.ref C) "__class__" = some (some (.builtin "object.__class__"))) && decide (PySem.W.specialIn K (.builtin "object.__class__") "__get__" = some (some (.builtin "getset_descriptor.__get__"))) && decide (PySem.W.takesIn K (.builtin "object.__class__") = some true) && decide (PySem.W.mroIn K C (.type "object") = some true)
theorem exB_ok {K : PySem.W.Frag} {C : Addr} (h : exB K C = true) : ExcC K C ∧ XfC K C := by
  unfold exB at h
  simp only [Bool.and_eq_true, decide_eq_true_eq] at h; obtain ⟨⟨⟨⟨⟨⟨⟨h1, h2⟩, h3⟩, h4⟩, h5⟩, h6⟩, h7⟩, h8⟩ := h
  exact ⟨⟨h1, h2, h3, h4, h5, h6, h7, h8⟩, ⟨h1, h2, h3, h4⟩⟩
def allC (n : Nat) (p : Nat → Bool) : Bool := (List.range n).all p
theorem allC_ok {n : Nat} {p : Nat → Bool} (h : allC n p = true) : ∀ c, c < n → p c = true := fun c hc => List.all_eq_true.mp h c (List.mem_range.mpr hc)
def tk0 (n : Nat) (b : Nat → Bool) : Nat → Option Bool := fun c => if c < n then some (b c) else none
theorem tk0_ok {n : Nat} {b : Nat → Bool} {c : Nat} {k : Bool} (h : tk0 n b c = some k) : c < n ∧ b c = k := by
  unfold tk0 at h
  split at h
  · rename_i hc
    exact ⟨hc, Option.some.inj h⟩
  · cases h
/-- what the program has of them: n classes, the first one over all -/
structure Ecs (K : PySem.W.Frag) (cl : Nat → Addr) (n : Nat) (fs : List Str) : Prop where
  ex : ∀ c, c < n → ExcC K (cl c) ∧ XfC K (cl c)
  no : ∀ f ∈ fs, ∀ c, c < n → PySem.W.findIn K (.ref (cl c)) f = some none
  is : ∀ d, d < n → ∀ c, c < n → PySem.W.kitOne K (.ref (cl c)) (.ref (cl d)) = some (c == d || d == 0)
  ve : ∀ c, c < n → PySem.W.kitOne K (.ref (cl c)) (.type "ValueError") = some true
  ki : ∀ c, c < n → PySem.W.kitAny K (.ref (cl c)) [.type "KeyError", .type "IndexError", .type "LookupError"] = some false
  xm : ∀ c, c < n → PySem.W.exmOne K (.ref (cl c)) (.ref (cl 0)) = some true
def ecsB (K : PySem.W.Frag) (cl : Nat → Addr) (n : Nat) (fs : List Str) : Bool :=
  allC n (fun c => exB K (cl c)) && fs.all (fun f => allC n fun c => decide (PySem.W.findIn K (.ref (cl c)) f = some none)) && allC n (fun d => allC n fun c => decide (PySem.W.kitOne K (.ref (cl c)) (.ref (cl d)) = some (c == d || d == 0))) &&
  allC n (fun c => decide (PySem.W.kitOne K (.ref (cl c)) (.type "ValueError") = some true)) && allC n (fun c => decide (PySem.W.kitAny K (.ref (cl c)) [.type "KeyError", .type "IndexError", .type "LookupError"] = some false)) && allC n (fun c => decide (PySem.W.exmOne K (.ref (cl c)) (.ref (cl 0)) = some true))
theorem ecsB_ok {K : PySem.W.Frag} {cl : Nat → Addr} {n : Nat} {fs : List Str} (h : ecsB K cl n fs = true) : Ecs K cl n fs := by
  unfold ecsB at h
  simp only [Bool.and_eq_true] at h; obtain ⟨⟨⟨⟨⟨h1, h2⟩, h3⟩, h4⟩, h5⟩, h6⟩ := h
  exact ⟨fun c hc => exB_ok (allC_ok h1 c hc), fun f hf c hc => of_decide_eq_true (allC_ok (List.all_eq_true.mp h2 f hf) c hc), fun d hd c hc => of_decide_eq_true (allC_ok (allC_ok h3 d hd) c hc), fun c hc => of_decide_eq_true (allC_ok h4 c hc), fun c hc => of_decide_eq_true (allC_ok h5 c hc), fun c hc => of_decide_eq_true (allC_ok h6 c hc)⟩
section
variable {X : Cx} {g : Gc} {W : WX} {A : Me} {e : Expr} {pos : Pos} {n : Nat} {fs : List Str}
theorem e_xfd {f : Str} (T : Ecs X.K g.cl n fs) (hf : f ∈ fs) (he : PE X e (Vm.T g W A)) (hb : attributeBase e f X.env (eval e X.env) = eval e X.env := by rfl) : PE X (.Attribute e f pos) (Vm.T g W (mExnF (fun c => decide (c < n)) f A)) :=
  e_exnF (fun c hc => ⟨(T.ex c (of_decide_eq_true hc)).2, T.no f hf c (of_decide_eq_true hc)⟩) he hb
theorem e_isC {d : Nat} {p pc : Pos} {x : Str} (T : Ecs X.K g.cl n fs) (hd : d < n) (hg : Gl X "isinstance") (hm : X.mg "isinstance" = none) (hgx : Gl X x) (hmx : X.mg x = some (.ref (g.cl d))) (he : PE X e (Vm.T g W A)) (hdb : (x == ("__debug__" : Str)) = false := by decide)
    (hst : starEach [e, .Name x pc] X.env = (false, eval e X.env) :: starEach [.Name x pc] X.env := by rfl) (hst2 : starEach [Expr.Name x pc] X.env = (false, eval (.Name x pc) X.env) :: starEach [] X.env := by rfl)
    (hpl : (backTo pos (starEach [Expr.Name x pc] X.env)).any (·.1) = false := by rfl) :
    PE X (.Call (.Name "isinstance" p) [e, .Name x pc] [] pos) (Vm.T g W (mIsE (tk0 n fun c => c == d || d == 0) A)) :=
  e_isE (cv := .ref (g.cl d)) (vc := .ref (g.cl d)) hg hm (pe_glob hgx hmx rfl hdb) (fun u r => r) (fun c b h => by
    obtain ⟨hc, rfl⟩ := tk0_ok h
    exact ⟨(T.ex c hc).1, T.is d hd c hc⟩) he hst hst2 hpl
theorem e_isVE {p pc : Pos} (T : Ecs X.K g.cl n fs) (hg : Gl X "isinstance") (hm : X.mg "isinstance" = none) (hgx : Gl X "ValueError") (hmx : X.mg "ValueError" = none) (he : PE X e (Vm.T g W A))
    (hst : starEach [e, .Name "ValueError" pc] X.env = (false, eval e X.env) :: starEach [.Name "ValueError" pc] X.env := by rfl) (hst2 : starEach [Expr.Name "ValueError" pc] X.env = (false, eval (.Name "ValueError" pc) X.env) :: starEach [] X.env := by rfl)
    (hpl : (backTo pos (starEach [Expr.Name "ValueError" pc] X.env)).any (·.1) = false := by rfl) :
    PE X (.Call (.Name "isinstance" p) [e, .Name "ValueError" pc] [] pos) (Vm.T g W (mIsE (tk0 n fun _ => true) A)) :=
  e_isE (cv := .type "ValueError") (vc := .ty "ValueError") hg hm (pe_bltn hgx hmx (by decide +kernel) rfl) (fun u r => r) (fun c b h => by
    obtain ⟨hc, rfl⟩ := tk0_ok h
    exact ⟨(T.ex c hc).1, T.ve c hc⟩) he hst hst2 hpl
theorem e_isKI {p q1 q2 q3 tpos : Pos} {x1} (T : Ecs X.K g.cl n fs) (hg : Gl X "isinstance") (hm : X.mg "isinstance" = none) (g1 : Gl X "KeyError") (m1 : X.mg "KeyError" = none) (g2 : Gl X "IndexError") (m2 : X.mg "IndexError" = none) (g3 : Gl X "LookupError") (m3 : X.mg "LookupError" = none) (he : PE X e (Vm.T g W A))
    (hst : starEach [e, .Tuple [.Name "KeyError" q1, .Name "IndexError" q2, .Name "LookupError" q3] x1 tpos] X.env = (false, eval e X.env) :: starEach [.Tuple [.Name "KeyError" q1, .Name "IndexError" q2, .Name "LookupError" q3] x1 tpos] X.env := by rfl)
    (hst2 : starEach [Expr.Tuple [.Name "KeyError" q1, .Name "IndexError" q2, .Name "LookupError" q3] x1 tpos] X.env = (false, eval (.Tuple [.Name "KeyError" q1, .Name "IndexError" q2, .Name "LookupError" q3] x1 tpos) X.env) :: starEach [] X.env := by rfl)
    (hpl : (backTo pos (starEach [Expr.Tuple [.Name "KeyError" q1, .Name "IndexError" q2, .Name "LookupError" q3] x1 tpos] X.env)).any (·.1) = false := by rfl) :
    PE X (.Call (.Name "isinstance" p) [e, .Tuple [.Name "KeyError" q1, .Name "IndexError" q2, .Name "LookupError" q3] x1 tpos] [] pos) (Vm.T g W (mIsE (tk0 n fun _ => false) A)) :=
  e_isET (vs := [.ty "KeyError", .ty "IndexError", .ty "LookupError"]) (ws := [.type "KeyError", .type "IndexError", .type "LookupError"]) hg hm
    (pa_cons (pe_bltn (v := .ty "KeyError") g1 m1 (by decide +kernel) rfl) (pa_cons (pe_bltn (v := .ty "IndexError") g2 m2 (by decide +kernel) rfl) (pa_cons (pe_bltn (v := .ty "LookupError") g3 m3 (by decide +kernel) rfl) pa_nil (by rfl)) (by rfl)) (by rfl))
    (.cons (.ty _) (.cons (.ty _) (.cons (.ty _) .nil))) (by decide) (fun c b h => by
    obtain ⟨hc, rfl⟩ := tk0_ok h
    exact ⟨(T.ex c hc).1, T.ki c hc⟩) he hst hst2 hpl
end
end Vm

set_option Elab.async false
set_option linter.all false
set_option maxRecDepth 100000
set_option maxHeartbeats 4100000
namespace Vm
open L2 PyProof.Rows PySem PySem.Spec
theorem lt64 {a c : Nat} (h : a + 65 < c) : a + 64 < c := by omega
theorem xcf_mk {P : Program} {w : World} {K : PySem.W.Frag} {mg : Str → Option Value} {base : Heap} {x f qual : Str} {st : Stmt} {C fI : Addr} {fd : FuncData} {p1 p2 p3 p4 : Pos} (gC : mg x = some (.ref C)) (ox : OexC K C) (iC : PySem.W.findIn K (.ref C) "__init__" = some (some (.ref fI))) (tI : PySem.W.typeIn K (.ref fI) = some (.type "function"))
    (nf : PySem.W.findIn K (.ref C) f = some none) (F : Fun K "__init__" qual st fI fd) (S : FnScope ["self", f] ["self", f] (defScope st)) (hb : defBody st = [.Assign [.Attribute (.Name "self" p1) f p2] (.Name f p3) p4]) (b : Binds K fd ["self", f] []) (bk : ∀ (s : Shared) (p u : Value), BindsTo s fd ⟨[p], [(f, u)]⟩ ((["self", f] : List Str).zip [p, u]))
    (h0 : Vis (defScope st) "self") (h1 : Vis (defScope st) f) (hd : (f == ("__debug__" : Str)) = false) (hcd : (f == ("__classdict__" : Str)) = false) (hs : ∀ X : Cx, swapsWith (.Name f p3) (some (.Attribute (.Name "self" p1) f p2)) p4.line X.env = pure false) : Xcf P w K mg base x f C :=
  ⟨fI, fd, ⟨gC, ox, iC, tI, nf⟩, init_ok (k := 0) F S hb h0 h1 hd hcd hs, b, fun s p u _ => bk s p u⟩
end Vm

set_option Elab.async false
set_option linter.all false
set_option maxRecDepth 100000
set_option maxHeartbeats 4100000
namespace Law
open PySem PySem.Spec PyProof.Rows L2 Vm

def topS (i : Nat) : Stmt := PySem.Challenge.pw_unlikehands_k52_errors_and_fields.main.body.getD i (.Pass ⟨0, 0, 0, 0⟩)
abbrev st_law_feed : Stmt := topS 26
abbrev N_law_feed : List Str := ["script", "k", "cell", "digits", "state"]
def m_law_feed (B_ns : List Int) : Ms := sSeq (sAsg (mIf (bV (m2 fLt (mV 1) (mBt (fLen B_ns) (lC (mV 0) (lN))))) (m2 (fIx B_ns) (mV 0) (mV 1)) (m2 fAdd (m2 fMul (mC (.int 61)) (mV 1)) (mC (.int 17)))) (gtN 2))
    (sSeq (sAsg (mBt (fMax2) (lC (mC (.int 0)) (lC (m2 fSub (mBt (fAbs) (lC (mV 2) (lN))) (m2 fPow (mC (.int 10)) (mC (.int 18)))) (lN)))) (gtN 3))
    (sSeq (sAsg (m2 fMod (mBt (fInt) (lC (m2 fAdd (m2 fAdd (m2 fMul (mV 2) (mC (.int 6364136223846793005))) (m2 fMul (mC (.int 7919)) (mV 1))) (mC (.int 1442695040888963407))) (lN))) (mC (.int 2305843009213693951))) (gtN 4))
    (sRet (mL (lC (mV 3) (lC (mV 4) (lN)))))))
def d_law_feed (B_ns : List Int) : List U → Mh → R U := runB 5 (m_law_feed B_ns)
abbrev st_law_take : Stmt := topS 27
abbrev N_law_take : List Str := ["feed", "bound", "digit"]
def m_law_take (B_ns : List Int) : Ms := sSeq (sIf (bV (m2 fGt (m2 (fIx B_ns) (mV 0) (mC (.int 0))) (mC (.int 0)))) (sSeq (sAsg (m2 fMod (mBt (fInt) (lC (m2 (fIx B_ns) (mV 0) (mC (.int 0))) (lN))) (mV 1)) (gtN 2))
    (sSeq (sPut (mV 0) (mC (.int 0)) (m2 fDiv (m2 (fIx B_ns) (mV 0) (mC (.int 0))) (mV 1)))
    (sRet (mV 2)))) (sPass))
    (sSeq (sPut (mV 0) (mC (.int 1)) (m2 fMod (mBt (fInt) (lC (m2 fAdd (m2 fMul (m2 (fIx B_ns) (mV 0) (mC (.int 1))) (mC (.int 6364136223846793005))) (mC (.int 1442695040888963407))) (lN))) (mC (.int 2305843009213693951))))
    (sRet (m2 fMod (mBt (fInt) (lC (m2 fDiv (m2 (fIx B_ns) (mV 0) (mC (.int 1))) (mC (.int 65536))) (lN))) (mV 1))))
def d_law_take (B_ns : List Int) : List U → Mh → R U := runB 3 (m_law_take B_ns)
abbrev st_law_pick : Stmt := topS 28
abbrev N_law_pick : List Str := ["feed", "some"]
def m_law_pick (B_ns : List Int) : Ms := sRet (m2 (fIx B_ns) (mV 1) (mCall (d_law_take B_ns) (lC (mV 0) (lC (mBt (fLen B_ns) (lC (mV 1) (lN))) (lN)))))
def d_law_pick (B_ns : List Int) : List U → Mh → R U := runB 2 (m_law_pick B_ns)
abbrev st_law_plain : Stmt := topS 29
abbrev N_law_plain : List Str := ["found"]
def m_law_plain (B_ns : List Int) : Ms := sSeq (sAsg (mL (lC (mExn0 1) (lC (mExn0 2) (lC (mExn0 3) (lC (mExn0 8) (lC (mExn0 9) (lC (mExn0 13) (lN)))))))) (gtN 0))
    (sSeq (sAsg (m2 fAdd (mV 0) (mL (lC (mExn0 15) (lC (mExn0 17) (lN))))) (gtN 0))
    (sRet (m2 fAdd (mV 0) (mL (lC (mExn0 18) (lC (mExn0 19) (lN)))))))
def d_law_plain (B_ns : List Int) : List U → Mh → R U := runB 1 (m_law_plain B_ns)
abbrev st_law_by_number : Stmt := topS 30
abbrev N_law_by_number : List Str := ["value", "found"]
def m_law_by_number (B_ns : List Int) : Ms := sSeq (sAsg (mL (lC (mExn 4 "number" (mV 0)) (lC (mExn 5 "number" (mV 0)) (lC (mExn 10 "number" (mV 0)) (lC (mExn 11 "number" (mV 0)) (lN)))))) (gtN 1))
    (sSeq (sAsg (m2 fAdd (mV 1) (mL (lC (mExn 12 "number" (mV 0)) (lC (mExn 14 "number" (mV 0)) (lN))))) (gtN 1))
    (sSeq (sAsg (m2 fAdd (mV 1) (mL (lC (mExn 20 "number" (mV 0)) (lC (mExn 21 "number" (mV 0)) (lC (mExn 22 "number" (mV 0)) (lC (mExn 4 "number" (mV 0)) (lN))))))) (gtN 1))
    (sSeq (sAsg (m2 fAdd (mV 1) (mL (lC (mExn 5 "number" (mV 0)) (lN)))) (gtN 1))
    (sSeq (sAsg (m2 fAdd (mV 1) (mL (lC (mExn 10 "number" (mV 0)) (lC (mExn 11 "number" (mV 0)) (lC (mExn 12 "number" (mV 0)) (lN)))))) (gtN 1))
    (sSeq (sAsg (m2 fAdd (mV 1) (mL (lC (mExn 14 "number" (mV 0)) (lN)))) (gtN 1))
    (sRet (m2 fAdd (mV 1) (mL (lC (mExn 20 "number" (mV 0)) (lC (mExn 21 "number" (mV 0)) (lC (mExn 22 "number" (mV 0)) (lN))))))))))))
def d_law_by_number (B_ns : List Int) : List U → Mh → R U := runB 2 (m_law_by_number B_ns)
abbrev st_law_kinds : Stmt := topS 31
abbrev N_law_kinds : List Str := ["error", "found"]
def m_law_kinds (B_ns : List Int) : Ms := sSeq (sAsg (mL (lC (mIsE (tk0 24 fun c => c == 1 || 1 == 0) (mV 0)) (lC (mIsE (tk0 24 fun c => c == 2 || 2 == 0) (mV 0)) (lC (mIsE (tk0 24 fun c => c == 3 || 3 == 0) (mV 0)) (lN))))) (gtN 1))
    (sSeq (sAsg (m2 fAdd (mV 1) (mL (lC (mIsE (tk0 24 fun c => c == 8 || 8 == 0) (mV 0)) (lC (mIsE (tk0 24 fun c => c == 9 || 9 == 0) (mV 0)) (lN))))) (gtN 1))
    (sSeq (sAsg (m2 fAdd (mV 1) (mL (lC (mIsE (tk0 24 fun c => c == 13 || 13 == 0) (mV 0)) (lN)))) (gtN 1))
    (sSeq (sAsg (m2 fAdd (mV 1) (mL (lC (mIsE (tk0 24 fun c => c == 15 || 15 == 0) (mV 0)) (lC (mIsE (tk0 24 fun c => c == 17 || 17 == 0) (mV 0)) (lN))))) (gtN 1))
    (sSeq (sAsg (m2 fAdd (mV 1) (mL (lC (mIsE (tk0 24 fun c => c == 18 || 18 == 0) (mV 0)) (lN)))) (gtN 1))
    (sSeq (sAsg (m2 fAdd (mV 1) (mL (lC (mIsE (tk0 24 fun c => c == 19 || 19 == 0) (mV 0)) (lC (mIsE (tk0 24 fun c => c == 4 || 4 == 0) (mV 0)) (lN))))) (gtN 1))
    (sSeq (sAsg (m2 fAdd (mV 1) (mL (lC (mIsE (tk0 24 fun c => c == 5 || 5 == 0) (mV 0)) (lN)))) (gtN 1))
    (sSeq (sAsg (m2 fAdd (mV 1) (mL (lC (mIsE (tk0 24 fun c => c == 10 || 10 == 0) (mV 0)) (lC (mIsE (tk0 24 fun c => c == 11 || 11 == 0) (mV 0)) (lN))))) (gtN 1))
    (sSeq (sAsg (m2 fAdd (mV 1) (mL (lC (mIsE (tk0 24 fun c => c == 12 || 12 == 0) (mV 0)) (lN)))) (gtN 1))
    (sSeq (sAsg (m2 fAdd (mV 1) (mL (lC (mIsE (tk0 24 fun c => c == 14 || 14 == 0) (mV 0)) (lC (mIsE (tk0 24 fun c => c == 20 || 20 == 0) (mV 0)) (lN))))) (gtN 1))
    (sSeq (sAsg (m2 fAdd (mV 1) (mL (lC (mIsE (tk0 24 fun c => c == 21 || 21 == 0) (mV 0)) (lN)))) (gtN 1))
    (sSeq (sAsg (m2 fAdd (mV 1) (mL (lC (mIsE (tk0 24 fun c => c == 22 || 22 == 0) (mV 0)) (lC (mIsE (tk0 24 fun c => c == 6 || 6 == 0) (mV 0)) (lN))))) (gtN 1))
    (sSeq (sAsg (m2 fAdd (mV 1) (mL (lC (mIsE (tk0 24 fun c => c == 7 || 7 == 0) (mV 0)) (lN)))) (gtN 1))
    (sRet (mMtL fCount (m2 fAdd (mV 1) (mL (lC (mIsE (tk0 24 fun c => c == 16 || 16 == 0) (mV 0)) (lC (mIsE (tk0 24 fun c => c == 23 || 23 == 0) (mV 0)) (lN))))) (lC (mC (.bl true)) (lN))))))))))))))))
def d_law_kinds (B_ns : List Int) : List U → Mh → R U := runB 2 (m_law_kinds B_ns)
abbrev st_law_caught : Stmt := topS 32
abbrev N_law_caught : List Str := ["nth", "value", "e"]
def m_law_caught (B_ns : List Int) : Ms := sTryAs (sSeq (sIf (bV (m2 fEq (mV 0) (mC (.int 0)))) (sRaise1 16 "tree" (mV 1)) (sPass))
    (sRaise1 23 "line" (mV 1))) (tk0 24 fun _ => true) 2 (fun c f => sRet (mIf (bV (m2 fEq (mV 0) (mC (.int 0)))) (mXf f "tree" (mV 2)) (mXf f "line" (mV 2))))
def d_law_caught (B_ns : List Int) : List U → Mh → R U := runB 3 (m_law_caught B_ns)
abbrev st_p_law : Stmt := topS 33
abbrev N_p_law : List Str := ["script", "feed", "value", "named", "told", "rest", "every", "error", "one", "other", "nth"]
def ls0 (B_ns : List Int) : Ms := sAsg (mL (lC (mExn 6 "name" (mV 2)) (lC (mExn 7 "name" (mV 2)) (lC (mExn 6 "name" (mV 2)) (lC (mExn 7 "name" (mV 2)) (lN)))))) (gtN 3)
def ls1 (B_ns : List Int) : Ms := sAsg (m2 fAdd (mLc (iL (mCall (d_law_by_number B_ns) (lC (mV 2) (lN)))) (gtN 7) (bYes) (mBt (fRepr) (lC (mExnF (fun c => decide (c < 24)) "number" (mV 7)) (lN))) [7]) (mLc (iL (mV 3)) (gtN 7) (bYes) (mBt (fRepr) (lC (mExnF (fun c => decide (c < 24)) "name" (mV 7)) (lN))) [7])) (gtN 4)
def ls2 (B_ns : List Int) : Ms := sIf (bV (m2 fNe (mV 4) (m2 fMul (mL (lC (mBt (fRepr) (lC (mV 2) (lN))) (lN))) (mC (.int 22))))) (sRet (mC (.bl false))) (sPass)
def ls3 (B_ns : List Int) : Ms := sAsg (mL (lC (mExn 16 "tree" (mV 2)) (lC (mExn 16 "tree" (mV 2)) (lC (mExn 23 "line" (mV 2)) (lC (mExn 23 "line" (mV 2)) (lN)))))) (gtN 5)
def ls4 (B_ns : List Int) : Ms := sIf (bV (m2 fNe (mL (lC (mBt (fRepr) (lC (mExnF (fun c => decide (c < 24)) "tree" (m2 (fIx B_ns) (mV 5) (mC (.int 0)))) (lN))) (lC (mBt (fRepr) (lC (mExnF (fun c => decide (c < 24)) "tree" (m2 (fIx B_ns) (mV 5) (mC (.int 1)))) (lN))) (lC (mBt (fRepr) (lC (mExnF (fun c => decide (c < 24)) "line" (m2 (fIx B_ns) (mV 5) (mC (.int 2)))) (lN))) (lC (mBt (fRepr) (lC (mExnF (fun c => decide (c < 24)) "line" (m2 (fIx B_ns) (mV 5) (mC (.int 3)))) (lN))) (lN)))))) (m2 fMul (mL (lC (mBt (fRepr) (lC (mV 2) (lN))) (lN))) (mC (.int 4))))) (sRet (mC (.bl false))) (sPass)
def ls5 (B_ns : List Int) : Ms := sAsg (m2 fAdd (m2 fAdd (m2 fAdd (mCall0 (d_law_plain B_ns) ) (mCall (d_law_by_number B_ns) (lC (mV 2) (lN)))) (mV 3)) (mV 5)) (gtN 6)
def ls6 (B_ns : List Int) : Ms := sIf (bV (m2 fNe (mLc (iL (mV 6)) (gtN 7) (bOr (bNot (bV (mIsE (tk0 24 fun c => c == 0 || 0 == 0) (mV 7)))) (bNot (bV (mIsE (tk0 24 fun _ => true) (mV 7))))) (mV 7) [7]) (mL (lN)))) (sRet (mC (.bl false))) (sPass)
def ls7 (B_ns : List Int) : Ms := sFor (iL (mV 6)) (gtN 7) (sIf (bV (mIsE (tk0 24 fun _ => false) (mV 7))) (sRet (mC (.bl false))) (sPass))
def ls8 (B_ns : List Int) : Ms := sIf (bOr (bV (m2 fNe (mLc (iL (mV 6)) (gtN 7) (bV (m2 fNe (mCall (d_law_kinds B_ns) (lC (mV 7) (lN))) (mC (.int 1)))) (mV 7) [7]) (mL (lN)))) (bV (m2 fNe (mCall (d_law_kinds B_ns) (lC (mExn0 0) (lN))) (mC (.int 0))))) (sRet (mC (.bl false))) (sPass)
def ls9 (B_ns : List Int) : Ms := sPar 8 9 (lC (mExn 10 "number" (mC (.int 0))) (lC (mExn 11 "number" (mC (.int 0))) (lN)))
def ls10 (B_ns : List Int) : Ms := sIf (bOr (bV (mIsE (tk0 24 fun c => c == 11 || 11 == 0) (mV 8))) (bOr (bV (mIsE (tk0 24 fun c => c == 10 || 10 == 0) (mV 9))) (bV (mIsE (tk0 24 fun c => c == 7 || 7 == 0) (mExn 6 "name" (mC (.str "a"))))))) (sRet (mC (.bl false))) (sPass)
def ls11 (B_ns : List Int) : Ms := sRet (m2 fEq (mLc (iR1 (lC (mC (.int 2)) (lN))) (gtN 10) (bYes) (mBt (fRepr) (lC (mCall (d_law_caught B_ns) (lC (mV 10) (lC (mV 2) (lN)))) (lN))) [10]) (m2 fMul (mL (lC (mBt (fRepr) (lC (mV 2) (lN))) (lN))) (mC (.int 2))))
def rest_law (B_ns : List Int) : Ms := sSeq (ls0 B_ns) (sSeq (ls1 B_ns) (sSeq (ls2 B_ns) (sSeq (ls3 B_ns) (sSeq (ls4 B_ns) (sSeq (ls5 B_ns) (sSeq (ls6 B_ns) (sSeq (ls7 B_ns) (sSeq (ls8 B_ns) (sSeq (ls9 B_ns) (sSeq (ls10 B_ns) (ls11 B_ns)))))))))))
def m_p_law (B_ns : List Int) : Ms := sSeq (sAsg (mCall (d_law_feed B_ns) (lC (mV 0) (lC (mC (.int 0)) (lN)))) (gtN 1)) (sSeq (sAsg (mCall (d_law_pick B_ns) (lC (mV 1) (lC (mL (lC (mC (.int 0)) (lC (mC (.int 3)) (lC (mC .non) (lC (mT (lC (mC (.str "rule")) (lC (mC (.int 0)) (lN)))) (lC (mL (lC (mC (.str "a")) (lN))) (lC (mC (.str "ann")) (lC (m2 fPow (mC (.int 10)) (mC (.int 30))) (lC (mC (.bl true)) (lC (mT (lN)) (lN))))))))))) (lN)))) (gtN 2)) (rest_law B_ns))
def d_p_law (B_ns : List Int) : List U → Mh → R U := runB 11 (m_p_law B_ns)
abbrev FS : List Str := ["line", "name", "number", "tree"]
/-- what the defs find in the module -/
structure Fx (P : Program) (w : World) (K : PySem.W.Frag) (mg : Str → Option Value) (base : Heap) (g : Gc) : Prop where
  hK : K = g.K
  hx : g.exn = none
  ec : Ecs K g.cl 24 FS
  z_IndexError : mg "IndexError" = none
  z_KeyError : mg "KeyError" = none
  z_LookupError : mg "LookupError" = none
  z_ValueError : mg "ValueError" = none
  z_abs : mg "abs" = none
  z_int : mg "int" = none
  z_isinstance : mg "isinstance" = none
  z_len : mg "len" = none
  z_max : mg "max" = none
  z_range : mg "range" = none
  z_repr : mg "repr" = none
  m_HandError : mg "HandError" = some (.ref (g.cl 0))
  x_HandError : Xc0 K mg "HandError" (g.cl 0)
  m_NoList : mg "NoList" = some (.ref (g.cl 1))
  x_NoList : Xc0 K mg "NoList" (g.cl 1)
  m_NoTuple : mg "NoTuple" = some (.ref (g.cl 2))
  x_NoTuple : Xc0 K mg "NoTuple" (g.cl 2)
  m_BadCount : mg "BadCount" = some (.ref (g.cl 3))
  x_BadCount : Xc0 K mg "BadCount" (g.cl 3)
  m_BadStep : mg "BadStep" = some (.ref (g.cl 4))
  x_BadStep : Xcf P w K mg base "BadStep" "number" (g.cl 4)
  m_BadPerson : mg "BadPerson" = some (.ref (g.cl 5))
  x_BadPerson : Xcf P w K mg base "BadPerson" "number" (g.cl 5)
  m_NoStep : mg "NoStep" = some (.ref (g.cl 6))
  x_NoStep : Xcf P w K mg base "NoStep" "name" (g.cl 6)
  m_NoPerson : mg "NoPerson" = some (.ref (g.cl 7))
  x_NoPerson : Xcf P w K mg base "NoPerson" "name" (g.cl 7)
  m_BadPattern : mg "BadPattern" = some (.ref (g.cl 8))
  x_BadPattern : Xc0 K mg "BadPattern" (g.cl 8)
  m_BadSharing : mg "BadSharing" = some (.ref (g.cl 9))
  x_BadSharing : Xc0 K mg "BadSharing" (g.cl 9)
  m_BadFact : mg "BadFact" = some (.ref (g.cl 10))
  x_BadFact : Xcf P w K mg base "BadFact" "number" (g.cl 10)
  m_BadRule : mg "BadRule" = some (.ref (g.cl 11))
  x_BadRule : Xcf P w K mg base "BadRule" "number" (g.cl 11)
  m_NoRule : mg "NoRule" = some (.ref (g.cl 12))
  x_NoRule : Xcf P w K mg base "NoRule" "number" (g.cl 12)
  m_BadNumber : mg "BadNumber" = some (.ref (g.cl 13))
  x_BadNumber : Xc0 K mg "BadNumber" (g.cl 13)
  m_NoSharing : mg "NoSharing" = some (.ref (g.cl 14))
  x_NoSharing : Xcf P w K mg base "NoSharing" "number" (g.cl 14)
  m_Misfit : mg "Misfit" = some (.ref (g.cl 15))
  x_Misfit : Xc0 K mg "Misfit" (g.cl 15)
  m_Stuck : mg "Stuck" = some (.ref (g.cl 16))
  x_Stuck : Xcf P w K mg base "Stuck" "tree" (g.cl 16)
  m_TooMany : mg "TooMany" = some (.ref (g.cl 17))
  x_TooMany : Xc0 K mg "TooMany" (g.cl 17)
  m_NotReady : mg "NotReady" = some (.ref (g.cl 18))
  x_NotReady : Xc0 K mg "NotReady" (g.cl 18)
  m_NoUndo : mg "NoUndo" = some (.ref (g.cl 19))
  x_NoUndo : Xc0 K mg "NoUndo" (g.cl 19)
  m_BadBefore : mg "BadBefore" = some (.ref (g.cl 20))
  x_BadBefore : Xcf P w K mg base "BadBefore" "number" (g.cl 20)
  m_BadPast : mg "BadPast" = some (.ref (g.cl 21))
  x_BadPast : Xcf P w K mg base "BadPast" "number" (g.cl 21)
  m_NoMark : mg "NoMark" = some (.ref (g.cl 22))
  x_NoMark : Xcf P w K mg base "NoMark" "number" (g.cl 22)
  m_BadText : mg "BadText" = some (.ref (g.cl 23))
  x_BadText : Xcf P w K mg base "BadText" "line" (g.cl 23)
theorem sc_law_feed : FnScope N_law_feed ["script", "k"] (defScope st_law_feed) := ⟨rfl, rfl, rfl, by decide +kernel, rfl, by decide +kernel, by decide +kernel⟩
theorem sc_law_take : FnScope N_law_take ["feed", "bound"] (defScope st_law_take) := ⟨rfl, rfl, rfl, by decide +kernel, rfl, by decide +kernel, by decide +kernel⟩
theorem sc_law_pick : FnScope N_law_pick ["feed", "some"] (defScope st_law_pick) := ⟨rfl, rfl, rfl, by decide +kernel, rfl, by decide +kernel, by decide +kernel⟩
theorem sc_law_plain : FnScope N_law_plain [] (defScope st_law_plain) := ⟨rfl, rfl, rfl, by decide +kernel, rfl, by decide +kernel, by decide +kernel⟩
theorem sc_law_by_number : FnScope N_law_by_number ["value"] (defScope st_law_by_number) := ⟨rfl, rfl, rfl, by decide +kernel, rfl, by decide +kernel, by decide +kernel⟩
theorem sc_law_kinds : FnScope N_law_kinds ["error"] (defScope st_law_kinds) := ⟨rfl, rfl, rfl, by decide +kernel, rfl, by decide +kernel, by decide +kernel⟩
theorem sc_law_caught : FnScope N_law_caught ["nth", "value"] (defScope st_law_caught) := ⟨rfl, rfl, rfl, by decide +kernel, rfl, by decide +kernel, by decide +kernel⟩
theorem sc_p_law : FnScope N_p_law ["script"] (defScope st_p_law) := ⟨rfl, rfl, rfl, by decide +kernel, rfl, by decide +kernel, by decide +kernel⟩
theorem si_BadStep : FnScope ["self", "number"] ["self", "number"] (defScope (clsS (topS 5))) := ⟨rfl, rfl, rfl, by decide +kernel, rfl, by decide +kernel, by decide +kernel⟩
theorem si_BadPerson : FnScope ["self", "number"] ["self", "number"] (defScope (clsS (topS 6))) := ⟨rfl, rfl, rfl, by decide +kernel, rfl, by decide +kernel, by decide +kernel⟩
theorem si_NoStep : FnScope ["self", "name"] ["self", "name"] (defScope (clsS (topS 7))) := ⟨rfl, rfl, rfl, by decide +kernel, rfl, by decide +kernel, by decide +kernel⟩
theorem si_NoPerson : FnScope ["self", "name"] ["self", "name"] (defScope (clsS (topS 8))) := ⟨rfl, rfl, rfl, by decide +kernel, rfl, by decide +kernel, by decide +kernel⟩
theorem si_BadFact : FnScope ["self", "number"] ["self", "number"] (defScope (clsS (topS 11))) := ⟨rfl, rfl, rfl, by decide +kernel, rfl, by decide +kernel, by decide +kernel⟩
theorem si_BadRule : FnScope ["self", "number"] ["self", "number"] (defScope (clsS (topS 12))) := ⟨rfl, rfl, rfl, by decide +kernel, rfl, by decide +kernel, by decide +kernel⟩
theorem si_NoRule : FnScope ["self", "number"] ["self", "number"] (defScope (clsS (topS 13))) := ⟨rfl, rfl, rfl, by decide +kernel, rfl, by decide +kernel, by decide +kernel⟩
theorem si_NoSharing : FnScope ["self", "number"] ["self", "number"] (defScope (clsS (topS 15))) := ⟨rfl, rfl, rfl, by decide +kernel, rfl, by decide +kernel, by decide +kernel⟩
theorem si_Stuck : FnScope ["self", "tree"] ["self", "tree"] (defScope (clsS (topS 17))) := ⟨rfl, rfl, rfl, by decide +kernel, rfl, by decide +kernel, by decide +kernel⟩
theorem si_BadBefore : FnScope ["self", "number"] ["self", "number"] (defScope (clsS (topS 21))) := ⟨rfl, rfl, rfl, by decide +kernel, rfl, by decide +kernel, by decide +kernel⟩
theorem si_BadPast : FnScope ["self", "number"] ["self", "number"] (defScope (clsS (topS 22))) := ⟨rfl, rfl, rfl, by decide +kernel, rfl, by decide +kernel, by decide +kernel⟩
theorem si_NoMark : FnScope ["self", "number"] ["self", "number"] (defScope (clsS (topS 23))) := ⟨rfl, rfl, rfl, by decide +kernel, rfl, by decide +kernel, by decide +kernel⟩
theorem si_BadText : FnScope ["self", "line"] ["self", "line"] (defScope (clsS (topS 24))) := ⟨rfl, rfl, rfl, by decide +kernel, rfl, by decide +kernel, by decide +kernel⟩
section
variable {P : Program} {w : World} {K : PySem.W.Frag} {mg : Str → Option Value} {base : Heap} {g : Gc}
theorem ok_law_feed (B : Fx P w K mg base g) {f : Addr} {fd : FuncData} (F : Fun K "_law_feed" "_law_feed" st_law_feed f fd) : FnOk P w K mg base (L2.CX P w) 1 f fd ["script", "k"] (spM g 2 (d_law_feed g.ns)) :=
  fn_ok2 (k := 0) F sc_law_feed fun cdv A outer s H E hr hu hp tk =>
      s_cons (s_set (i := 2) sc_law_feed.nd (e_if (t_cmp op_lt s_lt (e_var (i := 1)) (e_callB (k_len B.hK) s_len rfl B.z_len (by decide +kernel) (l_cons (e_var (i := 0)) (l_nil)))) (e_ix (o_ix B.hK) s_ix (e_var (i := 0)) (e_var (i := 1))) (e_op o_add s_add (e_op o_mul s_mul (e_int) (e_var (i := 1))) (e_int))))
        (s_cons (s_set (i := 3) sc_law_feed.nd (e_callB ((call_max2 rfl)) s_max2 rfl B.z_max (by decide +kernel) (l_cons (e_int) (l_cons (e_op op_sub s_sub (e_callB (call_abs) s_abs rfl B.z_abs (by decide +kernel) (l_cons (e_var (i := 2)) (l_nil))) (e_op op_pow s_pow (e_int) (e_int))) (l_nil)))))
        (s_cons (s_set (i := 4) sc_law_feed.nd (e_op op_mod s_mod (e_callTy (call_int1) s_int rfl B.z_int (by decide +kernel) (l_cons (e_op o_add s_add (e_op o_add s_add (e_op o_mul s_mul (e_var (i := 2)) (e_int)) (e_op o_mul s_mul (e_int) (e_var (i := 1)))) (e_int)) (l_nil))) (e_int)))
        (s_one (s_ret (e_lst (l_cons (e_var (i := 3)) (l_cons (e_var (i := 4)) (l_nil))))))))
theorem ok_law_take (B : Fx P w K mg base g) {f : Addr} {fd : FuncData} (F : Fun K "_law_take" "_law_take" st_law_take f fd) : FnOk P w K mg base (L2.CX P w) 1 f fd ["feed", "bound"] (spM g 2 (d_law_take g.ns)) :=
  fn_ok2 (k := 0) F sc_law_take fun cdv A outer s H E hr hu hp tk =>
      s_cons (s_if (t_cmp op_gt s_gt (e_ix (o_ix B.hK) s_ix (e_var (i := 0)) (e_int)) (e_int)) (s_cons (s_set (i := 2) sc_law_take.nd (e_op op_mod s_mod (e_callTy (call_int1) s_int rfl B.z_int (by decide +kernel) (l_cons (e_ix (o_ix B.hK) s_ix (e_var (i := 0)) (e_int)) (l_nil))) (e_var (i := 1))))
        (s_cons (s_put (e_var (i := 0)) (e_int) (e_op op_fdiv s_div (e_ix (o_ix B.hK) s_ix (e_var (i := 0)) (e_int)) (e_var (i := 1))))
        (s_one (s_ret (e_var (i := 2)))))) (s_nil))
        (s_cons (s_put (e_var (i := 0)) (e_int) (e_op op_mod s_mod (e_callTy (call_int1) s_int rfl B.z_int (by decide +kernel) (l_cons (e_op o_add s_add (e_op o_mul s_mul (e_ix (o_ix B.hK) s_ix (e_var (i := 0)) (e_int)) (e_int)) (e_int)) (l_nil))) (e_int)))
        (s_one (s_ret (e_op op_mod s_mod (e_callTy (call_int1) s_int rfl B.z_int (by decide +kernel) (l_cons (e_op op_fdiv s_div (e_ix (o_ix B.hK) s_ix (e_var (i := 0)) (e_int)) (e_int)) (l_nil))) (e_var (i := 1))))))
theorem ok_law_pick (B : Fx P w K mg base g) {f : Addr} {fd : FuncData} (F : Fun K "_law_pick" "_law_pick" st_law_pick f fd) {f_law_take : Addr} {fd_law_take : FuncData} (ok_law_take : FnOk P w K mg base (L2.CX P w) 1 f_law_take fd_law_take ["feed", "bound"] (spM g 2 (d_law_take g.ns))) (g_law_take : mg "_law_take" = some (.ref f_law_take)) (k_law_take : PySem.W.keepIn K (.ref f_law_take) = true) (b_law_take : Binds K fd_law_take ["feed", "bound"] []) : FnOk P w K mg base (L2.CX P w) 2 f fd ["feed", "some"] (spM g 2 (d_law_pick g.ns)) :=
  fn_ok2 (k := 1) F sc_law_pick fun cdv A outer s H E hr hu hp tk =>
      s_one (s_ret (e_ix (o_ix B.hK) s_ix (e_var (i := 1)) (e_call ok_law_take (hr.mono (by decide)) rfl g_law_take k_law_take b_law_take tk (l_cons (e_var (i := 0)) (l_cons (e_callB (k_len B.hK) s_len rfl B.z_len (by decide +kernel) (l_cons (e_var (i := 1)) (l_nil))) (l_nil))) (lC_len (lC_len (lN_len))))))
theorem ok_law_plain (B : Fx P w K mg base g) {f : Addr} {fd : FuncData} (F : Fun K "_law_plain" "_law_plain" st_law_plain f fd) : FnOk P w K mg base (L2.CX P w) 3 f fd [] (spM g 0 (d_law_plain g.ns)) :=
  fn_ok2 (k := 2) F sc_law_plain fun cdv A outer s H E hr hu hp tk =>
      s_cons (s_set (i := 0) sc_law_plain.nd (e_lst (l_cons (e_exn0 (c := 1) B.x_NoList rfl) (l_cons (e_exn0 (c := 2) B.x_NoTuple rfl) (l_cons (e_exn0 (c := 3) B.x_BadCount rfl) (l_cons (e_exn0 (c := 8) B.x_BadPattern rfl) (l_cons (e_exn0 (c := 9) B.x_BadSharing rfl) (l_cons (e_exn0 (c := 13) B.x_BadNumber rfl) (l_nil)))))))))
        (s_cons (s_set (i := 0) sc_law_plain.nd (e_op o_add s_add (e_var (i := 0)) (e_lst (l_cons (e_exn0 (c := 15) B.x_Misfit rfl) (l_cons (e_exn0 (c := 17) B.x_TooMany rfl) (l_nil))))))
        (s_one (s_ret (e_op o_add s_add (e_var (i := 0)) (e_lst (l_cons (e_exn0 (c := 18) B.x_NotReady rfl) (l_cons (e_exn0 (c := 19) B.x_NoUndo rfl) (l_nil))))))))
theorem ok_law_by_number (B : Fx P w K mg base g) {f : Addr} {fd : FuncData} (F : Fun K "_law_by_number" "_law_by_number" st_law_by_number f fd) : FnOk P w K mg base (L2.CX P w) 3 f fd ["value"] (spM g 1 (d_law_by_number g.ns)) :=
  fn_ok2 (k := 2) F sc_law_by_number fun cdv A outer s H E hr hu hp tk =>
      s_cons (s_set (i := 1) sc_law_by_number.nd (e_lst (l_cons (e_xP (c := 4) B.x_BadStep (hr.mono (by decide)) rfl (e_var (i := 0))) (l_cons (e_xP (c := 5) B.x_BadPerson (hr.mono (by decide)) rfl (e_var (i := 0))) (l_cons (e_xP (c := 10) B.x_BadFact (hr.mono (by decide)) rfl (e_var (i := 0))) (l_cons (e_xP (c := 11) B.x_BadRule (hr.mono (by decide)) rfl (e_var (i := 0))) (l_nil)))))))
        (s_cons (s_set (i := 1) sc_law_by_number.nd (e_op o_add s_add (e_var (i := 1)) (e_lst (l_cons (e_xP (c := 12) B.x_NoRule (hr.mono (by decide)) rfl (e_var (i := 0))) (l_cons (e_xP (c := 14) B.x_NoSharing (hr.mono (by decide)) rfl (e_var (i := 0))) (l_nil))))))
        (s_cons (s_set (i := 1) sc_law_by_number.nd (e_op o_add s_add (e_var (i := 1)) (e_lst (l_cons (e_xP (c := 20) B.x_BadBefore (hr.mono (by decide)) rfl (e_var (i := 0))) (l_cons (e_xP (c := 21) B.x_BadPast (hr.mono (by decide)) rfl (e_var (i := 0))) (l_cons (e_xP (c := 22) B.x_NoMark (hr.mono (by decide)) rfl (e_var (i := 0))) (l_cons (e_xK (c := 4) B.x_BadStep (hr.mono (by decide)) rfl (e_var (i := 0))) (l_nil))))))))
        (s_cons (s_set (i := 1) sc_law_by_number.nd (e_op o_add s_add (e_var (i := 1)) (e_lst (l_cons (e_xK (c := 5) B.x_BadPerson (hr.mono (by decide)) rfl (e_var (i := 0))) (l_nil)))))
        (s_cons (s_set (i := 1) sc_law_by_number.nd (e_op o_add s_add (e_var (i := 1)) (e_lst (l_cons (e_xK (c := 10) B.x_BadFact (hr.mono (by decide)) rfl (e_var (i := 0))) (l_cons (e_xK (c := 11) B.x_BadRule (hr.mono (by decide)) rfl (e_var (i := 0))) (l_cons (e_xK (c := 12) B.x_NoRule (hr.mono (by decide)) rfl (e_var (i := 0))) (l_nil)))))))
        (s_cons (s_set (i := 1) sc_law_by_number.nd (e_op o_add s_add (e_var (i := 1)) (e_lst (l_cons (e_xK (c := 14) B.x_NoSharing (hr.mono (by decide)) rfl (e_var (i := 0))) (l_nil)))))
        (s_one (s_ret (e_op o_add s_add (e_var (i := 1)) (e_lst (l_cons (e_xK (c := 20) B.x_BadBefore (hr.mono (by decide)) rfl (e_var (i := 0))) (l_cons (e_xK (c := 21) B.x_BadPast (hr.mono (by decide)) rfl (e_var (i := 0))) (l_cons (e_xK (c := 22) B.x_NoMark (hr.mono (by decide)) rfl (e_var (i := 0))) (l_nil)))))))))))))
theorem ok_law_kinds (B : Fx P w K mg base g) {f : Addr} {fd : FuncData} (F : Fun K "_law_kinds" "_law_kinds" st_law_kinds f fd) : FnOk P w K mg base (L2.CX P w) 1 f fd ["error"] (spM g 1 (d_law_kinds g.ns)) :=
  fn_ok2 (k := 0) F sc_law_kinds fun cdv A outer s H E hr hu hp tk =>
      s_cons (s_set (i := 1) sc_law_kinds.nd (e_lst (l_cons (e_isC (d := 1) B.ec (by decide) rfl B.z_isinstance rfl B.m_NoList (e_var (i := 0))) (l_cons (e_isC (d := 2) B.ec (by decide) rfl B.z_isinstance rfl B.m_NoTuple (e_var (i := 0))) (l_cons (e_isC (d := 3) B.ec (by decide) rfl B.z_isinstance rfl B.m_BadCount (e_var (i := 0))) (l_nil))))))
        (s_cons (s_set (i := 1) sc_law_kinds.nd (e_op o_add s_add (e_var (i := 1)) (e_lst (l_cons (e_isC (d := 8) B.ec (by decide) rfl B.z_isinstance rfl B.m_BadPattern (e_var (i := 0))) (l_cons (e_isC (d := 9) B.ec (by decide) rfl B.z_isinstance rfl B.m_BadSharing (e_var (i := 0))) (l_nil))))))
        (s_cons (s_set (i := 1) sc_law_kinds.nd (e_op o_add s_add (e_var (i := 1)) (e_lst (l_cons (e_isC (d := 13) B.ec (by decide) rfl B.z_isinstance rfl B.m_BadNumber (e_var (i := 0))) (l_nil)))))
        (s_cons (s_set (i := 1) sc_law_kinds.nd (e_op o_add s_add (e_var (i := 1)) (e_lst (l_cons (e_isC (d := 15) B.ec (by decide) rfl B.z_isinstance rfl B.m_Misfit (e_var (i := 0))) (l_cons (e_isC (d := 17) B.ec (by decide) rfl B.z_isinstance rfl B.m_TooMany (e_var (i := 0))) (l_nil))))))
        (s_cons (s_set (i := 1) sc_law_kinds.nd (e_op o_add s_add (e_var (i := 1)) (e_lst (l_cons (e_isC (d := 18) B.ec (by decide) rfl B.z_isinstance rfl B.m_NotReady (e_var (i := 0))) (l_nil)))))
        (s_cons (s_set (i := 1) sc_law_kinds.nd (e_op o_add s_add (e_var (i := 1)) (e_lst (l_cons (e_isC (d := 19) B.ec (by decide) rfl B.z_isinstance rfl B.m_NoUndo (e_var (i := 0))) (l_cons (e_isC (d := 4) B.ec (by decide) rfl B.z_isinstance rfl B.m_BadStep (e_var (i := 0))) (l_nil))))))
        (s_cons (s_set (i := 1) sc_law_kinds.nd (e_op o_add s_add (e_var (i := 1)) (e_lst (l_cons (e_isC (d := 5) B.ec (by decide) rfl B.z_isinstance rfl B.m_BadPerson (e_var (i := 0))) (l_nil)))))
        (s_cons (s_set (i := 1) sc_law_kinds.nd (e_op o_add s_add (e_var (i := 1)) (e_lst (l_cons (e_isC (d := 10) B.ec (by decide) rfl B.z_isinstance rfl B.m_BadFact (e_var (i := 0))) (l_cons (e_isC (d := 11) B.ec (by decide) rfl B.z_isinstance rfl B.m_BadRule (e_var (i := 0))) (l_nil))))))
        (s_cons (s_set (i := 1) sc_law_kinds.nd (e_op o_add s_add (e_var (i := 1)) (e_lst (l_cons (e_isC (d := 12) B.ec (by decide) rfl B.z_isinstance rfl B.m_NoRule (e_var (i := 0))) (l_nil)))))
        (s_cons (s_set (i := 1) sc_law_kinds.nd (e_op o_add s_add (e_var (i := 1)) (e_lst (l_cons (e_isC (d := 14) B.ec (by decide) rfl B.z_isinstance rfl B.m_NoSharing (e_var (i := 0))) (l_cons (e_isC (d := 20) B.ec (by decide) rfl B.z_isinstance rfl B.m_BadBefore (e_var (i := 0))) (l_nil))))))
        (s_cons (s_set (i := 1) sc_law_kinds.nd (e_op o_add s_add (e_var (i := 1)) (e_lst (l_cons (e_isC (d := 21) B.ec (by decide) rfl B.z_isinstance rfl B.m_BadPast (e_var (i := 0))) (l_nil)))))
        (s_cons (s_set (i := 1) sc_law_kinds.nd (e_op o_add s_add (e_var (i := 1)) (e_lst (l_cons (e_isC (d := 22) B.ec (by decide) rfl B.z_isinstance rfl B.m_NoMark (e_var (i := 0))) (l_cons (e_isC (d := 6) B.ec (by decide) rfl B.z_isinstance rfl B.m_NoStep (e_var (i := 0))) (l_nil))))))
        (s_cons (s_set (i := 1) sc_law_kinds.nd (e_op o_add s_add (e_var (i := 1)) (e_lst (l_cons (e_isC (d := 7) B.ec (by decide) rfl B.z_isinstance rfl B.m_NoPerson (e_var (i := 0))) (l_nil)))))
        (s_one (s_ret (e_count hu (e_op o_add s_add (e_var (i := 1)) (e_lst (l_cons (e_isC (d := 16) B.ec (by decide) rfl B.z_isinstance rfl B.m_Stuck (e_var (i := 0))) (l_cons (e_isC (d := 23) B.ec (by decide) rfl B.z_isinstance rfl B.m_BadText (e_var (i := 0))) (l_nil))))) (l_cons (e_bl) (l_nil)))))))))))))))))
theorem ok_law_caught (B : Fx P w K mg base g) {f : Addr} {fd : FuncData} (F : Fun K "_law_caught" "_law_caught" st_law_caught f fd) : FnOk P w K mg base (L2.CX P w) 3 f fd ["nth", "value"] (spM g 2 (d_law_caught g.ns)) :=
  fn_ok2 (k := 2) F sc_law_caught fun cdv A outer s H E hr hu hp tk =>
      s_one (s_tryAs (i := 2) (tks := tk0 24 fun _ => true) (cv := .ref (g.cl 0)) B.hx rfl rfl sc_law_caught.nd rfl rfl ⟨rfl, by decide, .inl B.m_HandError⟩ tk (fun c k h => by obtain ⟨hc, rfl⟩ := tk0_ok h; exact B.ec.xm c hc) (fun W1 pn xe tk1 hp1 => s_cons (s_if (t_cmp (op_eqD (lt64 hu)) s_eq (e_var (i := 0)) (e_int)) (s_one (s_xR (c := 16) rfl tk1 B.x_Stuck (hr.mono (by decide)) rfl (e_var (i := 1)))) (s_nil))
        (s_one (s_xR (c := 23) rfl tk1 B.x_BadText (hr.mono (by decide)) rfl (e_var (i := 1))))) (fun a oe c dd f pn ht hz hf => s_one (s_ret (e_if (t_cmp (op_eqD (lt64 hu)) s_eq (e_var (i := 0)) (e_int)) (e_xf (B.ec.ex c (tk0_ok ht).1).2 (B.ec.no _ (by decide +kernel) c (tk0_ok ht).1) hz hf (e_var (i := 2))) (e_xf (B.ec.ex c (tk0_ok ht).1).2 (B.ec.no _ (by decide +kernel) c (tk0_ok ht).1) hz hf (e_var (i := 2)))))))
theorem body_law (B : Fx P w K mg base g) {f_law_caught : Addr} {fd_law_caught : FuncData} (ok_law_caught : FnOk P w K mg base (L2.CX P w) 3 f_law_caught fd_law_caught ["nth", "value"] (spM g 2 (d_law_caught g.ns))) (g_law_caught : mg "_law_caught" = some (.ref f_law_caught)) (k_law_caught : PySem.W.keepIn K (.ref f_law_caught) = true) (b_law_caught : Binds K fd_law_caught ["nth", "value"] []) {f_law_kinds : Addr} {fd_law_kinds : FuncData} (ok_law_kinds : FnOk P w K mg base (L2.CX P w) 1 f_law_kinds fd_law_kinds ["error"] (spM g 1 (d_law_kinds g.ns))) (g_law_kinds : mg "_law_kinds" = some (.ref f_law_kinds)) (k_law_kinds : PySem.W.keepIn K (.ref f_law_kinds) = true) (b_law_kinds : Binds K fd_law_kinds ["error"] []) {f_law_plain : Addr} {fd_law_plain : FuncData} (ok_law_plain : FnOk P w K mg base (L2.CX P w) 3 f_law_plain fd_law_plain [] (spM g 0 (d_law_plain g.ns))) (g_law_plain : mg "_law_plain" = some (.ref f_law_plain)) (k_law_plain : PySem.W.keepIn K (.ref f_law_plain) = true) (b_law_plain : Binds K fd_law_plain [] []) {f_law_by_number : Addr} {fd_law_by_number : FuncData} (ok_law_by_number : FnOk P w K mg base (L2.CX P w) 3 f_law_by_number fd_law_by_number ["value"] (spM g 1 (d_law_by_number g.ns))) (g_law_by_number : mg "_law_by_number" = some (.ref f_law_by_number)) (k_law_by_number : PySem.W.keepIn K (.ref f_law_by_number) = true) (b_law_by_number : Binds K fd_law_by_number ["value"] []) {f_law_pick : Addr} {fd_law_pick : FuncData} (ok_law_pick : FnOk P w K mg base (L2.CX P w) 2 f_law_pick fd_law_pick ["feed", "some"] (spM g 2 (d_law_pick g.ns))) (g_law_pick : mg "_law_pick" = some (.ref f_law_pick)) (k_law_pick : PySem.W.keepIn K (.ref f_law_pick) = true) (b_law_pick : Binds K fd_law_pick ["feed", "some"] []) {f_law_feed : Addr} {fd_law_feed : FuncData} (ok_law_feed : FnOk P w K mg base (L2.CX P w) 1 f_law_feed fd_law_feed ["script", "k"] (spM g 2 (d_law_feed g.ns))) (g_law_feed : mg "_law_feed" = some (.ref f_law_feed)) (k_law_feed : PySem.W.keepIn K (.ref f_law_feed) = true) (b_law_feed : Binds K fd_law_feed ["script", "k"] []) {f : Addr} : LawBody P w K mg base g "law" st_p_law N_p_law f 3 (m_p_law g.ns) :=
  fun cdv A outer s H E hgd hr hu hp tk =>
      s_cons (s_set (i := 1) sc_p_law.nd (e_call ok_law_feed (hr.mono (by decide)) rfl g_law_feed k_law_feed b_law_feed tk (l_cons (e_var (i := 0)) (l_cons (e_int) (l_nil))) (lC_len (lC_len (lN_len)))))
        (s_cons (s_set (i := 2) sc_p_law.nd (e_call ok_law_pick (hr.mono (by decide)) rfl g_law_pick k_law_pick b_law_pick tk (l_cons (e_var (i := 1)) (l_cons (e_lst (l_cons (e_int) (l_cons (e_int) (l_cons (e_non) (l_cons (e_tup (l_cons (e_str) (l_cons (e_int) (l_nil)))) (l_cons (e_lst (l_cons (e_str) (l_nil))) (l_cons (e_str) (l_cons (e_op op_pow s_pow (e_int) (e_int)) (l_cons (e_bl) (l_cons (e_tup (l_nil)) (l_nil))))))))))) (l_nil))) (lC_len (lC_len (lN_len)))))
        (s_cons (s_set (i := 3) sc_p_law.nd (e_lst (l_cons (e_xP (c := 6) B.x_NoStep (hr.mono (by decide)) rfl (e_var (i := 2))) (l_cons (e_xP (c := 7) B.x_NoPerson (hr.mono (by decide)) rfl (e_var (i := 2))) (l_cons (e_xK (c := 6) B.x_NoStep (hr.mono (by decide)) rfl (e_var (i := 2))) (l_cons (e_xK (c := 7) B.x_NoPerson (hr.mono (by decide)) rfl (e_var (i := 2))) (l_nil)))))))
        (s_cons (s_set (i := 4) sc_p_law.nd (e_op o_add s_add (e_lc (own := [("error", 7)]) rfl sc_p_law.nd (i_list (e_call ok_law_by_number (hr.mono (by decide)) rfl g_law_by_number k_law_by_number b_law_by_number tk (l_cons (e_var (i := 2)) (l_nil)) (lC_len (lN_len)))) (blkOk_by (N := N_p_law) (sc := defScope st_p_law) (by decide +kernel)) (fun _ _ _ _ _ => g_name (i := 7) sc_p_law.nd) (fun _ _ _ _ _ => b_yes) (fun _ _ _ _ _ => e_callB (call_reprD hgd hu) s_repr rfl B.z_repr (by decide +kernel) (l_cons (e_xfd B.ec (by decide +kernel) (e_var (i := 7))) (l_nil))) (by decide)) (e_lc (own := [("error", 7)]) rfl sc_p_law.nd (i_list (e_var (i := 3))) (blkOk_by (N := N_p_law) (sc := defScope st_p_law) (by decide +kernel)) (fun _ _ _ _ _ => g_name (i := 7) sc_p_law.nd) (fun _ _ _ _ _ => b_yes) (fun _ _ _ _ _ => e_callB (call_reprD hgd hu) s_repr rfl B.z_repr (by decide +kernel) (l_cons (e_xfd B.ec (by decide +kernel) (e_var (i := 7))) (l_nil))) (by decide))))
        (s_cons (s_if (t_cmp (op_neD (lt64 hu)) s_ne (e_var (i := 4)) (e_op o_mul s_mul (e_lst (l_cons (e_callB (call_reprD hgd hu) s_repr rfl B.z_repr (by decide +kernel) (l_cons (e_var (i := 2)) (l_nil))) (l_nil))) (e_int))) (s_one (s_ret (e_bl))) (s_nil))
        (s_cons (s_set (i := 5) sc_p_law.nd (e_lst (l_cons (e_xP (c := 16) B.x_Stuck (hr.mono (by decide)) rfl (e_var (i := 2))) (l_cons (e_xK (c := 16) B.x_Stuck (hr.mono (by decide)) rfl (e_var (i := 2))) (l_cons (e_xP (c := 23) B.x_BadText (hr.mono (by decide)) rfl (e_var (i := 2))) (l_cons (e_xK (c := 23) B.x_BadText (hr.mono (by decide)) rfl (e_var (i := 2))) (l_nil)))))))
        (s_cons (s_if (t_cmp (op_neD (lt64 hu)) s_ne (e_lst (l_cons (e_callB (call_reprD hgd hu) s_repr rfl B.z_repr (by decide +kernel) (l_cons (e_xfd B.ec (by decide +kernel) (e_ix (o_ix B.hK) s_ix (e_var (i := 5)) (e_int))) (l_nil))) (l_cons (e_callB (call_reprD hgd hu) s_repr rfl B.z_repr (by decide +kernel) (l_cons (e_xfd B.ec (by decide +kernel) (e_ix (o_ix B.hK) s_ix (e_var (i := 5)) (e_int))) (l_nil))) (l_cons (e_callB (call_reprD hgd hu) s_repr rfl B.z_repr (by decide +kernel) (l_cons (e_xfd B.ec (by decide +kernel) (e_ix (o_ix B.hK) s_ix (e_var (i := 5)) (e_int))) (l_nil))) (l_cons (e_callB (call_reprD hgd hu) s_repr rfl B.z_repr (by decide +kernel) (l_cons (e_xfd B.ec (by decide +kernel) (e_ix (o_ix B.hK) s_ix (e_var (i := 5)) (e_int))) (l_nil))) (l_nil)))))) (e_op o_mul s_mul (e_lst (l_cons (e_callB (call_reprD hgd hu) s_repr rfl B.z_repr (by decide +kernel) (l_cons (e_var (i := 2)) (l_nil))) (l_nil))) (e_int))) (s_one (s_ret (e_bl))) (s_nil))
        (s_cons (s_set (i := 6) sc_p_law.nd (e_op o_add s_add (e_op o_add s_add (e_op o_add s_add (e_call0 ok_law_plain (hr.mono (by decide))  rfl g_law_plain k_law_plain b_law_plain ) (e_call ok_law_by_number (hr.mono (by decide)) rfl g_law_by_number k_law_by_number b_law_by_number tk (l_cons (e_var (i := 2)) (l_nil)) (lC_len (lN_len)))) (e_var (i := 3))) (e_var (i := 5))))
        (s_cons (s_if (t_cmp (op_neD (lt64 hu)) s_ne (e_lc (own := [("error", 7)]) rfl sc_p_law.nd (i_list (e_var (i := 6))) (blkOk_by (N := N_p_law) (sc := defScope st_p_law) (by decide +kernel)) (fun _ _ _ _ _ => g_name (i := 7) sc_p_law.nd) (fun _ _ _ _ _ => b_one (PW.pt (w_or (t_not (t_val (e_isC (d := 0) B.ec (by decide) rfl B.z_isinstance rfl B.m_HandError (e_var (i := 7))))) (w_or1 (t_not (t_val (e_isVE B.ec rfl B.z_isinstance rfl B.z_ValueError (e_var (i := 7))))))))) (fun _ _ _ _ _ => e_var (i := 7)) (by decide)) (e_lst (l_nil))) (s_one (s_ret (e_bl))) (s_nil))
        (s_cons (s_for hp rfl (i_list (e_var (i := 6))) (g_name (i := 7) sc_p_law.nd) (s_one (s_if (t_val (e_isKI B.ec rfl B.z_isinstance rfl B.z_KeyError rfl B.z_IndexError rfl B.z_LookupError (e_var (i := 7)))) (s_one (s_ret (e_bl))) (s_nil))))
        (s_cons (s_if (PW.pt (w_or (t_cmp (op_neD (lt64 hu)) s_ne (e_lc (own := [("error", 7)]) rfl sc_p_law.nd (i_list (e_var (i := 6))) (blkOk_by (N := N_p_law) (sc := defScope st_p_law) (by decide +kernel)) (fun _ _ _ _ _ => g_name (i := 7) sc_p_law.nd) (fun _ _ _ _ _ => b_one (t_cmp (op_neD (lt64 hu)) s_ne (e_call ok_law_kinds (hr.mono (by decide)) rfl g_law_kinds k_law_kinds b_law_kinds (takes0) (l_cons (e_var (i := 7)) (l_nil)) (lC_len (lN_len))) (e_int))) (fun _ _ _ _ _ => e_var (i := 7)) (by decide)) (e_lst (l_nil))) (w_or1 (t_cmp (op_neD (lt64 hu)) s_ne (e_call ok_law_kinds (hr.mono (by decide)) rfl g_law_kinds k_law_kinds b_law_kinds tk (l_cons (e_exn0 (c := 0) B.x_HandError rfl) (l_nil)) (lC_len (lN_len))) (e_int))))) (s_one (s_ret (e_bl))) (s_nil))
        (s_cons (s_par (i := 8) (j := 9) rfl sc_p_law.nd (l_cons (e_xP (c := 10) B.x_BadFact (hr.mono (by decide)) rfl (e_int)) (l_cons (e_xP (c := 11) B.x_BadRule (hr.mono (by decide)) rfl (e_int)) (l_nil))))
        (s_cons (s_if (PW.pt (w_or (t_val (e_isC (d := 11) B.ec (by decide) rfl B.z_isinstance rfl B.m_BadRule (e_var (i := 8)))) (w_or (t_val (e_isC (d := 10) B.ec (by decide) rfl B.z_isinstance rfl B.m_BadFact (e_var (i := 9)))) (w_or1 (t_val (e_isC (d := 7) B.ec (by decide) rfl B.z_isinstance rfl B.m_NoPerson (e_xP (c := 6) B.x_NoStep (hr.mono (by decide)) rfl (e_str)))))))) (s_one (s_ret (e_bl))) (s_nil))
        (s_one (s_ret (e_cmp (op_eqD (lt64 hu)) s_eq (e_lc (own := [("nth", 10)]) rfl sc_p_law.nd (i_range1 rfl B.z_range (l_cons (e_int) (l_nil))) (blkOk_by (N := N_p_law) (sc := defScope st_p_law) (by decide +kernel)) (fun _ _ _ _ _ => g_name (i := 10) sc_p_law.nd) (fun _ _ _ _ _ => b_yes) (fun _ _ _ _ _ => e_callB (call_reprD hgd hu) s_repr rfl B.z_repr (by decide +kernel) (l_cons (e_call ok_law_caught (hr.mono (by decide)) rfl g_law_caught k_law_caught b_law_caught (takes0) (l_cons (e_var (i := 10)) (l_cons (e_var (i := 2)) (l_nil))) (lC_len (lC_len (lN_len)))) (l_nil))) (by decide)) (e_op o_mul s_mul (e_lst (l_cons (e_callB (call_reprD hgd hu) s_repr rfl B.z_repr (by decide +kernel) (l_cons (e_var (i := 2)) (l_nil))) (l_nil))) (e_int)))))))))))))))))
end
theorem all_mk {l : PySem.W.OpenLaw} {w : World} {K : PySem.W.Frag} {h : Heap} {mg : Str → Option Value} {fa : Addr} (X : K.In h) (G : h.Ns mainGlobals mg) (hfa : mg "law" = some (.ref fa))
    {f0 : Addr} {od0 an0 : Option Addr} {sl0 : Array (Option Value)} {oc0 kV0 dc0 pm0 cd0 ct0 : Value}
    (a0 : PySem.W.nsIn K mainGlobals "_law_feed" = some (some (.ref f0))) (l0 : K.lookup f0 = some ⟨oc0, od0, .func (PySem.W.fnOf "_law_feed" "_law_feed" (defArgs st_law_feed) (defBody st_law_feed) (defScope st_law_feed) .none kV0 dc0 pm0 an0 cd0 ct0), sl0⟩) (c0 : PySem.W.codeIn K cd0 "_law_feed" = true) (k0 : PySem.W.keepIn K (.ref f0) = true)
    {f1 : Addr} {od1 an1 : Option Addr} {sl1 : Array (Option Value)} {oc1 kV1 dc1 pm1 cd1 ct1 : Value}
    (a1 : PySem.W.nsIn K mainGlobals "_law_take" = some (some (.ref f1))) (l1 : K.lookup f1 = some ⟨oc1, od1, .func (PySem.W.fnOf "_law_take" "_law_take" (defArgs st_law_take) (defBody st_law_take) (defScope st_law_take) .none kV1 dc1 pm1 an1 cd1 ct1), sl1⟩) (c1 : PySem.W.codeIn K cd1 "_law_take" = true) (k1 : PySem.W.keepIn K (.ref f1) = true)
    {f2 : Addr} {od2 an2 : Option Addr} {sl2 : Array (Option Value)} {oc2 kV2 dc2 pm2 cd2 ct2 : Value}
    (a2 : PySem.W.nsIn K mainGlobals "_law_pick" = some (some (.ref f2))) (l2 : K.lookup f2 = some ⟨oc2, od2, .func (PySem.W.fnOf "_law_pick" "_law_pick" (defArgs st_law_pick) (defBody st_law_pick) (defScope st_law_pick) .none kV2 dc2 pm2 an2 cd2 ct2), sl2⟩) (c2 : PySem.W.codeIn K cd2 "_law_pick" = true) (k2 : PySem.W.keepIn K (.ref f2) = true)
    {f3 : Addr} {od3 an3 : Option Addr} {sl3 : Array (Option Value)} {oc3 kV3 dc3 pm3 cd3 ct3 : Value}
    (a3 : PySem.W.nsIn K mainGlobals "_law_plain" = some (some (.ref f3))) (l3 : K.lookup f3 = some ⟨oc3, od3, .func (PySem.W.fnOf "_law_plain" "_law_plain" (defArgs st_law_plain) (defBody st_law_plain) (defScope st_law_plain) .none kV3 dc3 pm3 an3 cd3 ct3), sl3⟩) (c3 : PySem.W.codeIn K cd3 "_law_plain" = true) (k3 : PySem.W.keepIn K (.ref f3) = true)
    {f4 : Addr} {od4 an4 : Option Addr} {sl4 : Array (Option Value)} {oc4 kV4 dc4 pm4 cd4 ct4 : Value}
    (a4 : PySem.W.nsIn K mainGlobals "_law_by_number" = some (some (.ref f4))) (l4 : K.lookup f4 = some ⟨oc4, od4, .func (PySem.W.fnOf "_law_by_number" "_law_by_number" (defArgs st_law_by_number) (defBody st_law_by_number) (defScope st_law_by_number) .none kV4 dc4 pm4 an4 cd4 ct4), sl4⟩) (c4 : PySem.W.codeIn K cd4 "_law_by_number" = true) (k4 : PySem.W.keepIn K (.ref f4) = true)
    {f5 : Addr} {od5 an5 : Option Addr} {sl5 : Array (Option Value)} {oc5 kV5 dc5 pm5 cd5 ct5 : Value}
    (a5 : PySem.W.nsIn K mainGlobals "_law_kinds" = some (some (.ref f5))) (l5 : K.lookup f5 = some ⟨oc5, od5, .func (PySem.W.fnOf "_law_kinds" "_law_kinds" (defArgs st_law_kinds) (defBody st_law_kinds) (defScope st_law_kinds) .none kV5 dc5 pm5 an5 cd5 ct5), sl5⟩) (c5 : PySem.W.codeIn K cd5 "_law_kinds" = true) (k5 : PySem.W.keepIn K (.ref f5) = true)
    {f6 : Addr} {od6 an6 : Option Addr} {sl6 : Array (Option Value)} {oc6 kV6 dc6 pm6 cd6 ct6 : Value}
    (a6 : PySem.W.nsIn K mainGlobals "_law_caught" = some (some (.ref f6))) (l6 : K.lookup f6 = some ⟨oc6, od6, .func (PySem.W.fnOf "_law_caught" "_law_caught" (defArgs st_law_caught) (defBody st_law_caught) (defScope st_law_caught) .none kV6 dc6 pm6 an6 cd6 ct6), sl6⟩) (c6 : PySem.W.codeIn K cd6 "_law_caught" = true) (k6 : PySem.W.keepIn K (.ref f6) = true)
    {f7 : Addr} {od7 an7 : Option Addr} {sl7 : Array (Option Value)} {oc7 kV7 dc7 pm7 cd7 ct7 : Value}
    (a7 : PySem.W.nsIn K mainGlobals "law" = some (some (.ref f7))) (l7 : K.lookup f7 = some ⟨oc7, od7, .func (PySem.W.fnOf "law" "law" (defArgs st_p_law) (defBody st_p_law) (defScope st_p_law) .none kV7 dc7 pm7 an7 cd7 ct7), sl7⟩) (c7 : PySem.W.codeIn K cd7 "law" = true) (k7 : PySem.W.keepIn K (.ref f7) = true)
    {A0 : Addr} (ca0 : PySem.W.nsIn K mainGlobals "HandError" = some (some (.ref A0))) (kx0 : PySem.W.keepIn K (.ref A0) = true) (bp0 : PySem.W.subIn K (.ref A0) (.type "BaseException") = some true) (tp0 : PySem.W.typeIn K (.ref A0) = some (.type "type"))
    (xp0 : PySem.W.excIn K A0 veB "ValueError.__new__" = true)
    {A1 : Addr} (ca1 : PySem.W.nsIn K mainGlobals "NoList" = some (some (.ref A1))) (kx1 : PySem.W.keepIn K (.ref A1) = true) (bp1 : PySem.W.subIn K (.ref A1) (.type "BaseException") = some true) (tp1 : PySem.W.typeIn K (.ref A1) = some (.type "type"))
    (xp1 : PySem.W.excIn K A1 veB "ValueError.__new__" = true)
    {A2 : Addr} (ca2 : PySem.W.nsIn K mainGlobals "NoTuple" = some (some (.ref A2))) (kx2 : PySem.W.keepIn K (.ref A2) = true) (bp2 : PySem.W.subIn K (.ref A2) (.type "BaseException") = some true) (tp2 : PySem.W.typeIn K (.ref A2) = some (.type "type"))
    (xp2 : PySem.W.excIn K A2 veB "ValueError.__new__" = true)
    {A3 : Addr} (ca3 : PySem.W.nsIn K mainGlobals "BadCount" = some (some (.ref A3))) (kx3 : PySem.W.keepIn K (.ref A3) = true) (bp3 : PySem.W.subIn K (.ref A3) (.type "BaseException") = some true) (tp3 : PySem.W.typeIn K (.ref A3) = some (.type "type"))
    (xp3 : PySem.W.excIn K A3 veB "ValueError.__new__" = true)
    {A4 : Addr} (ca4 : PySem.W.nsIn K mainGlobals "BadStep" = some (some (.ref A4))) (kx4 : PySem.W.keepIn K (.ref A4) = true) (bp4 : PySem.W.subIn K (.ref A4) (.type "BaseException") = some true) (tp4 : PySem.W.typeIn K (.ref A4) = some (.type "type"))
    {q1_4 q2_4 : Str} {q3_4 : Addr} {q4_4 q5_4 : List Value} {q6_4 : List Str} {q7_4 : List Value} {q8_4 : Bool} {q9_4 : Option Bool} {q10_4 : Option Addr} {q11_4 q12_4 q13_4 q14_4 q15_4 : Option Value} (lk4 : K.lookup A4 = some (excClassObj q1_4 q2_4 A4 q3_4 q4_4 q5_4 true q6_4 q7_4 q8_4 q9_4 q10_4 q11_4 q12_4 q13_4 q14_4 q15_4 "ValueError.__new__")) (rf4 : PySem.HandSPX.refsVE q5_4 = true)
    (sa4 : PySem.W.findIn K (.ref A4) "__setattr__" = some (some (.builtin "object.__setattr__"))) {I4 : Addr} (in4 : PySem.W.findIn K (.ref A4) "__init__" = some (some (.ref I4))) (ti4 : PySem.W.typeIn K (.ref I4) = some (.type "function")) (nf4 : PySem.W.findIn K (.ref A4) "number" = some none)
    {iod4 ian4 : Option Addr} {isl4 : Array (Option Value)} {ioc4 ikV4 idc4 ipm4 icd4 ict4 : Value} (il4 : K.lookup I4 = some ⟨ioc4, iod4, .func (PySem.W.fnOf "__init__" "BadStep.__init__" (defArgs (clsS (topS 5))) (defBody (clsS (topS 5))) (defScope (clsS (topS 5))) .none ikV4 idc4 ipm4 ian4 icd4 ict4), isl4⟩) (ic4 : PySem.W.codeIn K icd4 "BadStep.__init__" = true) (ik4 : PySem.W.keepIn K (.ref I4) = true)
    {A5 : Addr} (ca5 : PySem.W.nsIn K mainGlobals "BadPerson" = some (some (.ref A5))) (kx5 : PySem.W.keepIn K (.ref A5) = true) (bp5 : PySem.W.subIn K (.ref A5) (.type "BaseException") = some true) (tp5 : PySem.W.typeIn K (.ref A5) = some (.type "type"))
    {q1_5 q2_5 : Str} {q3_5 : Addr} {q4_5 q5_5 : List Value} {q6_5 : List Str} {q7_5 : List Value} {q8_5 : Bool} {q9_5 : Option Bool} {q10_5 : Option Addr} {q11_5 q12_5 q13_5 q14_5 q15_5 : Option Value} (lk5 : K.lookup A5 = some (excClassObj q1_5 q2_5 A5 q3_5 q4_5 q5_5 true q6_5 q7_5 q8_5 q9_5 q10_5 q11_5 q12_5 q13_5 q14_5 q15_5 "ValueError.__new__")) (rf5 : PySem.HandSPX.refsVE q5_5 = true)
    (sa5 : PySem.W.findIn K (.ref A5) "__setattr__" = some (some (.builtin "object.__setattr__"))) {I5 : Addr} (in5 : PySem.W.findIn K (.ref A5) "__init__" = some (some (.ref I5))) (ti5 : PySem.W.typeIn K (.ref I5) = some (.type "function")) (nf5 : PySem.W.findIn K (.ref A5) "number" = some none)
    {iod5 ian5 : Option Addr} {isl5 : Array (Option Value)} {ioc5 ikV5 idc5 ipm5 icd5 ict5 : Value} (il5 : K.lookup I5 = some ⟨ioc5, iod5, .func (PySem.W.fnOf "__init__" "BadPerson.__init__" (defArgs (clsS (topS 6))) (defBody (clsS (topS 6))) (defScope (clsS (topS 6))) .none ikV5 idc5 ipm5 ian5 icd5 ict5), isl5⟩) (ic5 : PySem.W.codeIn K icd5 "BadPerson.__init__" = true) (ik5 : PySem.W.keepIn K (.ref I5) = true)
    {A6 : Addr} (ca6 : PySem.W.nsIn K mainGlobals "NoStep" = some (some (.ref A6))) (kx6 : PySem.W.keepIn K (.ref A6) = true) (bp6 : PySem.W.subIn K (.ref A6) (.type "BaseException") = some true) (tp6 : PySem.W.typeIn K (.ref A6) = some (.type "type"))
    {q1_6 q2_6 : Str} {q3_6 : Addr} {q4_6 q5_6 : List Value} {q6_6 : List Str} {q7_6 : List Value} {q8_6 : Bool} {q9_6 : Option Bool} {q10_6 : Option Addr} {q11_6 q12_6 q13_6 q14_6 q15_6 : Option Value} (lk6 : K.lookup A6 = some (excClassObj q1_6 q2_6 A6 q3_6 q4_6 q5_6 true q6_6 q7_6 q8_6 q9_6 q10_6 q11_6 q12_6 q13_6 q14_6 q15_6 "ValueError.__new__")) (rf6 : PySem.HandSPX.refsVE q5_6 = true)
    (sa6 : PySem.W.findIn K (.ref A6) "__setattr__" = some (some (.builtin "object.__setattr__"))) {I6 : Addr} (in6 : PySem.W.findIn K (.ref A6) "__init__" = some (some (.ref I6))) (ti6 : PySem.W.typeIn K (.ref I6) = some (.type "function")) (nf6 : PySem.W.findIn K (.ref A6) "name" = some none)
    {iod6 ian6 : Option Addr} {isl6 : Array (Option Value)} {ioc6 ikV6 idc6 ipm6 icd6 ict6 : Value} (il6 : K.lookup I6 = some ⟨ioc6, iod6, .func (PySem.W.fnOf "__init__" "NoStep.__init__" (defArgs (clsS (topS 7))) (defBody (clsS (topS 7))) (defScope (clsS (topS 7))) .none ikV6 idc6 ipm6 ian6 icd6 ict6), isl6⟩) (ic6 : PySem.W.codeIn K icd6 "NoStep.__init__" = true) (ik6 : PySem.W.keepIn K (.ref I6) = true)
    {A7 : Addr} (ca7 : PySem.W.nsIn K mainGlobals "NoPerson" = some (some (.ref A7))) (kx7 : PySem.W.keepIn K (.ref A7) = true) (bp7 : PySem.W.subIn K (.ref A7) (.type "BaseException") = some true) (tp7 : PySem.W.typeIn K (.ref A7) = some (.type "type"))
    {q1_7 q2_7 : Str} {q3_7 : Addr} {q4_7 q5_7 : List Value} {q6_7 : List Str} {q7_7 : List Value} {q8_7 : Bool} {q9_7 : Option Bool} {q10_7 : Option Addr} {q11_7 q12_7 q13_7 q14_7 q15_7 : Option Value} (lk7 : K.lookup A7 = some (excClassObj q1_7 q2_7 A7 q3_7 q4_7 q5_7 true q6_7 q7_7 q8_7 q9_7 q10_7 q11_7 q12_7 q13_7 q14_7 q15_7 "ValueError.__new__")) (rf7 : PySem.HandSPX.refsVE q5_7 = true)
    (sa7 : PySem.W.findIn K (.ref A7) "__setattr__" = some (some (.builtin "object.__setattr__"))) {I7 : Addr} (in7 : PySem.W.findIn K (.ref A7) "__init__" = some (some (.ref I7))) (ti7 : PySem.W.typeIn K (.ref I7) = some (.type "function")) (nf7 : PySem.W.findIn K (.ref A7) "name" = some none)
    {iod7 ian7 : Option Addr} {isl7 : Array (Option Value)} {ioc7 ikV7 idc7 ipm7 icd7 ict7 : Value} (il7 : K.lookup I7 = some ⟨ioc7, iod7, .func (PySem.W.fnOf "__init__" "NoPerson.__init__" (defArgs (clsS (topS 8))) (defBody (clsS (topS 8))) (defScope (clsS (topS 8))) .none ikV7 idc7 ipm7 ian7 icd7 ict7), isl7⟩) (ic7 : PySem.W.codeIn K icd7 "NoPerson.__init__" = true) (ik7 : PySem.W.keepIn K (.ref I7) = true)
    {A8 : Addr} (ca8 : PySem.W.nsIn K mainGlobals "BadPattern" = some (some (.ref A8))) (kx8 : PySem.W.keepIn K (.ref A8) = true) (bp8 : PySem.W.subIn K (.ref A8) (.type "BaseException") = some true) (tp8 : PySem.W.typeIn K (.ref A8) = some (.type "type"))
    (xp8 : PySem.W.excIn K A8 veB "ValueError.__new__" = true)
    {A9 : Addr} (ca9 : PySem.W.nsIn K mainGlobals "BadSharing" = some (some (.ref A9))) (kx9 : PySem.W.keepIn K (.ref A9) = true) (bp9 : PySem.W.subIn K (.ref A9) (.type "BaseException") = some true) (tp9 : PySem.W.typeIn K (.ref A9) = some (.type "type"))
    (xp9 : PySem.W.excIn K A9 veB "ValueError.__new__" = true)
    {A10 : Addr} (ca10 : PySem.W.nsIn K mainGlobals "BadFact" = some (some (.ref A10))) (kx10 : PySem.W.keepIn K (.ref A10) = true) (bp10 : PySem.W.subIn K (.ref A10) (.type "BaseException") = some true) (tp10 : PySem.W.typeIn K (.ref A10) = some (.type "type"))
    {q1_10 q2_10 : Str} {q3_10 : Addr} {q4_10 q5_10 : List Value} {q6_10 : List Str} {q7_10 : List Value} {q8_10 : Bool} {q9_10 : Option Bool} {q10_10 : Option Addr} {q11_10 q12_10 q13_10 q14_10 q15_10 : Option Value} (lk10 : K.lookup A10 = some (excClassObj q1_10 q2_10 A10 q3_10 q4_10 q5_10 true q6_10 q7_10 q8_10 q9_10 q10_10 q11_10 q12_10 q13_10 q14_10 q15_10 "ValueError.__new__")) (rf10 : PySem.HandSPX.refsVE q5_10 = true)
    (sa10 : PySem.W.findIn K (.ref A10) "__setattr__" = some (some (.builtin "object.__setattr__"))) {I10 : Addr} (in10 : PySem.W.findIn K (.ref A10) "__init__" = some (some (.ref I10))) (ti10 : PySem.W.typeIn K (.ref I10) = some (.type "function")) (nf10 : PySem.W.findIn K (.ref A10) "number" = some none)
    {iod10 ian10 : Option Addr} {isl10 : Array (Option Value)} {ioc10 ikV10 idc10 ipm10 icd10 ict10 : Value} (il10 : K.lookup I10 = some ⟨ioc10, iod10, .func (PySem.W.fnOf "__init__" "BadFact.__init__" (defArgs (clsS (topS 11))) (defBody (clsS (topS 11))) (defScope (clsS (topS 11))) .none ikV10 idc10 ipm10 ian10 icd10 ict10), isl10⟩) (ic10 : PySem.W.codeIn K icd10 "BadFact.__init__" = true) (ik10 : PySem.W.keepIn K (.ref I10) = true)
    {A11 : Addr} (ca11 : PySem.W.nsIn K mainGlobals "BadRule" = some (some (.ref A11))) (kx11 : PySem.W.keepIn K (.ref A11) = true) (bp11 : PySem.W.subIn K (.ref A11) (.type "BaseException") = some true) (tp11 : PySem.W.typeIn K (.ref A11) = some (.type "type"))
    {q1_11 q2_11 : Str} {q3_11 : Addr} {q4_11 q5_11 : List Value} {q6_11 : List Str} {q7_11 : List Value} {q8_11 : Bool} {q9_11 : Option Bool} {q10_11 : Option Addr} {q11_11 q12_11 q13_11 q14_11 q15_11 : Option Value} (lk11 : K.lookup A11 = some (excClassObj q1_11 q2_11 A11 q3_11 q4_11 q5_11 true q6_11 q7_11 q8_11 q9_11 q10_11 q11_11 q12_11 q13_11 q14_11 q15_11 "ValueError.__new__")) (rf11 : PySem.HandSPX.refsVE q5_11 = true)
    (sa11 : PySem.W.findIn K (.ref A11) "__setattr__" = some (some (.builtin "object.__setattr__"))) {I11 : Addr} (in11 : PySem.W.findIn K (.ref A11) "__init__" = some (some (.ref I11))) (ti11 : PySem.W.typeIn K (.ref I11) = some (.type "function")) (nf11 : PySem.W.findIn K (.ref A11) "number" = some none)
    {iod11 ian11 : Option Addr} {isl11 : Array (Option Value)} {ioc11 ikV11 idc11 ipm11 icd11 ict11 : Value} (il11 : K.lookup I11 = some ⟨ioc11, iod11, .func (PySem.W.fnOf "__init__" "BadRule.__init__" (defArgs (clsS (topS 12))) (defBody (clsS (topS 12))) (defScope (clsS (topS 12))) .none ikV11 idc11 ipm11 ian11 icd11 ict11), isl11⟩) (ic11 : PySem.W.codeIn K icd11 "BadRule.__init__" = true) (ik11 : PySem.W.keepIn K (.ref I11) = true)
    {A12 : Addr} (ca12 : PySem.W.nsIn K mainGlobals "NoRule" = some (some (.ref A12))) (kx12 : PySem.W.keepIn K (.ref A12) = true) (bp12 : PySem.W.subIn K (.ref A12) (.type "BaseException") = some true) (tp12 : PySem.W.typeIn K (.ref A12) = some (.type "type"))
    {q1_12 q2_12 : Str} {q3_12 : Addr} {q4_12 q5_12 : List Value} {q6_12 : List Str} {q7_12 : List Value} {q8_12 : Bool} {q9_12 : Option Bool} {q10_12 : Option Addr} {q11_12 q12_12 q13_12 q14_12 q15_12 : Option Value} (lk12 : K.lookup A12 = some (excClassObj q1_12 q2_12 A12 q3_12 q4_12 q5_12 true q6_12 q7_12 q8_12 q9_12 q10_12 q11_12 q12_12 q13_12 q14_12 q15_12 "ValueError.__new__")) (rf12 : PySem.HandSPX.refsVE q5_12 = true)
    (sa12 : PySem.W.findIn K (.ref A12) "__setattr__" = some (some (.builtin "object.__setattr__"))) {I12 : Addr} (in12 : PySem.W.findIn K (.ref A12) "__init__" = some (some (.ref I12))) (ti12 : PySem.W.typeIn K (.ref I12) = some (.type "function")) (nf12 : PySem.W.findIn K (.ref A12) "number" = some none)
    {iod12 ian12 : Option Addr} {isl12 : Array (Option Value)} {ioc12 ikV12 idc12 ipm12 icd12 ict12 : Value} (il12 : K.lookup I12 = some ⟨ioc12, iod12, .func (PySem.W.fnOf "__init__" "NoRule.__init__" (defArgs (clsS (topS 13))) (defBody (clsS (topS 13))) (defScope (clsS (topS 13))) .none ikV12 idc12 ipm12 ian12 icd12 ict12), isl12⟩) (ic12 : PySem.W.codeIn K icd12 "NoRule.__init__" = true) (ik12 : PySem.W.keepIn K (.ref I12) = true)
    {A13 : Addr} (ca13 : PySem.W.nsIn K mainGlobals "BadNumber" = some (some (.ref A13))) (kx13 : PySem.W.keepIn K (.ref A13) = true) (bp13 : PySem.W.subIn K (.ref A13) (.type "BaseException") = some true) (tp13 : PySem.W.typeIn K (.ref A13) = some (.type "type"))
    (xp13 : PySem.W.excIn K A13 veB "ValueError.__new__" = true)
    {A14 : Addr} (ca14 : PySem.W.nsIn K mainGlobals "NoSharing" = some (some (.ref A14))) (kx14 : PySem.W.keepIn K (.ref A14) = true) (bp14 : PySem.W.subIn K (.ref A14) (.type "BaseException") = some true) (tp14 : PySem.W.typeIn K (.ref A14) = some (.type "type"))
    {q1_14 q2_14 : Str} {q3_14 : Addr} {q4_14 q5_14 : List Value} {q6_14 : List Str} {q7_14 : List Value} {q8_14 : Bool} {q9_14 : Option Bool} {q10_14 : Option Addr} {q11_14 q12_14 q13_14 q14_14 q15_14 : Option Value} (lk14 : K.lookup A14 = some (excClassObj q1_14 q2_14 A14 q3_14 q4_14 q5_14 true q6_14 q7_14 q8_14 q9_14 q10_14 q11_14 q12_14 q13_14 q14_14 q15_14 "ValueError.__new__")) (rf14 : PySem.HandSPX.refsVE q5_14 = true)
    (sa14 : PySem.W.findIn K (.ref A14) "__setattr__" = some (some (.builtin "object.__setattr__"))) {I14 : Addr} (in14 : PySem.W.findIn K (.ref A14) "__init__" = some (some (.ref I14))) (ti14 : PySem.W.typeIn K (.ref I14) = some (.type "function")) (nf14 : PySem.W.findIn K (.ref A14) "number" = some none)
    {iod14 ian14 : Option Addr} {isl14 : Array (Option Value)} {ioc14 ikV14 idc14 ipm14 icd14 ict14 : Value} (il14 : K.lookup I14 = some ⟨ioc14, iod14, .func (PySem.W.fnOf "__init__" "NoSharing.__init__" (defArgs (clsS (topS 15))) (defBody (clsS (topS 15))) (defScope (clsS (topS 15))) .none ikV14 idc14 ipm14 ian14 icd14 ict14), isl14⟩) (ic14 : PySem.W.codeIn K icd14 "NoSharing.__init__" = true) (ik14 : PySem.W.keepIn K (.ref I14) = true)
    {A15 : Addr} (ca15 : PySem.W.nsIn K mainGlobals "Misfit" = some (some (.ref A15))) (kx15 : PySem.W.keepIn K (.ref A15) = true) (bp15 : PySem.W.subIn K (.ref A15) (.type "BaseException") = some true) (tp15 : PySem.W.typeIn K (.ref A15) = some (.type "type"))
    (xp15 : PySem.W.excIn K A15 veB "ValueError.__new__" = true)
    {A16 : Addr} (ca16 : PySem.W.nsIn K mainGlobals "Stuck" = some (some (.ref A16))) (kx16 : PySem.W.keepIn K (.ref A16) = true) (bp16 : PySem.W.subIn K (.ref A16) (.type "BaseException") = some true) (tp16 : PySem.W.typeIn K (.ref A16) = some (.type "type"))
    {q1_16 q2_16 : Str} {q3_16 : Addr} {q4_16 q5_16 : List Value} {q6_16 : List Str} {q7_16 : List Value} {q8_16 : Bool} {q9_16 : Option Bool} {q10_16 : Option Addr} {q11_16 q12_16 q13_16 q14_16 q15_16 : Option Value} (lk16 : K.lookup A16 = some (excClassObj q1_16 q2_16 A16 q3_16 q4_16 q5_16 true q6_16 q7_16 q8_16 q9_16 q10_16 q11_16 q12_16 q13_16 q14_16 q15_16 "ValueError.__new__")) (rf16 : PySem.HandSPX.refsVE q5_16 = true)
    (sa16 : PySem.W.findIn K (.ref A16) "__setattr__" = some (some (.builtin "object.__setattr__"))) {I16 : Addr} (in16 : PySem.W.findIn K (.ref A16) "__init__" = some (some (.ref I16))) (ti16 : PySem.W.typeIn K (.ref I16) = some (.type "function")) (nf16 : PySem.W.findIn K (.ref A16) "tree" = some none)
    {iod16 ian16 : Option Addr} {isl16 : Array (Option Value)} {ioc16 ikV16 idc16 ipm16 icd16 ict16 : Value} (il16 : K.lookup I16 = some ⟨ioc16, iod16, .func (PySem.W.fnOf "__init__" "Stuck.__init__" (defArgs (clsS (topS 17))) (defBody (clsS (topS 17))) (defScope (clsS (topS 17))) .none ikV16 idc16 ipm16 ian16 icd16 ict16), isl16⟩) (ic16 : PySem.W.codeIn K icd16 "Stuck.__init__" = true) (ik16 : PySem.W.keepIn K (.ref I16) = true)
    {A17 : Addr} (ca17 : PySem.W.nsIn K mainGlobals "TooMany" = some (some (.ref A17))) (kx17 : PySem.W.keepIn K (.ref A17) = true) (bp17 : PySem.W.subIn K (.ref A17) (.type "BaseException") = some true) (tp17 : PySem.W.typeIn K (.ref A17) = some (.type "type"))
    (xp17 : PySem.W.excIn K A17 veB "ValueError.__new__" = true)
    {A18 : Addr} (ca18 : PySem.W.nsIn K mainGlobals "NotReady" = some (some (.ref A18))) (kx18 : PySem.W.keepIn K (.ref A18) = true) (bp18 : PySem.W.subIn K (.ref A18) (.type "BaseException") = some true) (tp18 : PySem.W.typeIn K (.ref A18) = some (.type "type"))
    (xp18 : PySem.W.excIn K A18 veB "ValueError.__new__" = true)
    {A19 : Addr} (ca19 : PySem.W.nsIn K mainGlobals "NoUndo" = some (some (.ref A19))) (kx19 : PySem.W.keepIn K (.ref A19) = true) (bp19 : PySem.W.subIn K (.ref A19) (.type "BaseException") = some true) (tp19 : PySem.W.typeIn K (.ref A19) = some (.type "type"))
    (xp19 : PySem.W.excIn K A19 veB "ValueError.__new__" = true)
    {A20 : Addr} (ca20 : PySem.W.nsIn K mainGlobals "BadBefore" = some (some (.ref A20))) (kx20 : PySem.W.keepIn K (.ref A20) = true) (bp20 : PySem.W.subIn K (.ref A20) (.type "BaseException") = some true) (tp20 : PySem.W.typeIn K (.ref A20) = some (.type "type"))
    {q1_20 q2_20 : Str} {q3_20 : Addr} {q4_20 q5_20 : List Value} {q6_20 : List Str} {q7_20 : List Value} {q8_20 : Bool} {q9_20 : Option Bool} {q10_20 : Option Addr} {q11_20 q12_20 q13_20 q14_20 q15_20 : Option Value} (lk20 : K.lookup A20 = some (excClassObj q1_20 q2_20 A20 q3_20 q4_20 q5_20 true q6_20 q7_20 q8_20 q9_20 q10_20 q11_20 q12_20 q13_20 q14_20 q15_20 "ValueError.__new__")) (rf20 : PySem.HandSPX.refsVE q5_20 = true)
    (sa20 : PySem.W.findIn K (.ref A20) "__setattr__" = some (some (.builtin "object.__setattr__"))) {I20 : Addr} (in20 : PySem.W.findIn K (.ref A20) "__init__" = some (some (.ref I20))) (ti20 : PySem.W.typeIn K (.ref I20) = some (.type "function")) (nf20 : PySem.W.findIn K (.ref A20) "number" = some none)
    {iod20 ian20 : Option Addr} {isl20 : Array (Option Value)} {ioc20 ikV20 idc20 ipm20 icd20 ict20 : Value} (il20 : K.lookup I20 = some ⟨ioc20, iod20, .func (PySem.W.fnOf "__init__" "BadBefore.__init__" (defArgs (clsS (topS 21))) (defBody (clsS (topS 21))) (defScope (clsS (topS 21))) .none ikV20 idc20 ipm20 ian20 icd20 ict20), isl20⟩) (ic20 : PySem.W.codeIn K icd20 "BadBefore.__init__" = true) (ik20 : PySem.W.keepIn K (.ref I20) = true)
    {A21 : Addr} (ca21 : PySem.W.nsIn K mainGlobals "BadPast" = some (some (.ref A21))) (kx21 : PySem.W.keepIn K (.ref A21) = true) (bp21 : PySem.W.subIn K (.ref A21) (.type "BaseException") = some true) (tp21 : PySem.W.typeIn K (.ref A21) = some (.type "type"))
    {q1_21 q2_21 : Str} {q3_21 : Addr} {q4_21 q5_21 : List Value} {q6_21 : List Str} {q7_21 : List Value} {q8_21 : Bool} {q9_21 : Option Bool} {q10_21 : Option Addr} {q11_21 q12_21 q13_21 q14_21 q15_21 : Option Value} (lk21 : K.lookup A21 = some (excClassObj q1_21 q2_21 A21 q3_21 q4_21 q5_21 true q6_21 q7_21 q8_21 q9_21 q10_21 q11_21 q12_21 q13_21 q14_21 q15_21 "ValueError.__new__")) (rf21 : PySem.HandSPX.refsVE q5_21 = true)
    (sa21 : PySem.W.findIn K (.ref A21) "__setattr__" = some (some (.builtin "object.__setattr__"))) {I21 : Addr} (in21 : PySem.W.findIn K (.ref A21) "__init__" = some (some (.ref I21))) (ti21 : PySem.W.typeIn K (.ref I21) = some (.type "function")) (nf21 : PySem.W.findIn K (.ref A21) "number" = some none)
    {iod21 ian21 : Option Addr} {isl21 : Array (Option Value)} {ioc21 ikV21 idc21 ipm21 icd21 ict21 : Value} (il21 : K.lookup I21 = some ⟨ioc21, iod21, .func (PySem.W.fnOf "__init__" "BadPast.__init__" (defArgs (clsS (topS 22))) (defBody (clsS (topS 22))) (defScope (clsS (topS 22))) .none ikV21 idc21 ipm21 ian21 icd21 ict21), isl21⟩) (ic21 : PySem.W.codeIn K icd21 "BadPast.__init__" = true) (ik21 : PySem.W.keepIn K (.ref I21) = true)
    {A22 : Addr} (ca22 : PySem.W.nsIn K mainGlobals "NoMark" = some (some (.ref A22))) (kx22 : PySem.W.keepIn K (.ref A22) = true) (bp22 : PySem.W.subIn K (.ref A22) (.type "BaseException") = some true) (tp22 : PySem.W.typeIn K (.ref A22) = some (.type "type"))
    {q1_22 q2_22 : Str} {q3_22 : Addr} {q4_22 q5_22 : List Value} {q6_22 : List Str} {q7_22 : List Value} {q8_22 : Bool} {q9_22 : Option Bool} {q10_22 : Option Addr} {q11_22 q12_22 q13_22 q14_22 q15_22 : Option Value} (lk22 : K.lookup A22 = some (excClassObj q1_22 q2_22 A22 q3_22 q4_22 q5_22 true q6_22 q7_22 q8_22 q9_22 q10_22 q11_22 q12_22 q13_22 q14_22 q15_22 "ValueError.__new__")) (rf22 : PySem.HandSPX.refsVE q5_22 = true)
    (sa22 : PySem.W.findIn K (.ref A22) "__setattr__" = some (some (.builtin "object.__setattr__"))) {I22 : Addr} (in22 : PySem.W.findIn K (.ref A22) "__init__" = some (some (.ref I22))) (ti22 : PySem.W.typeIn K (.ref I22) = some (.type "function")) (nf22 : PySem.W.findIn K (.ref A22) "number" = some none)
    {iod22 ian22 : Option Addr} {isl22 : Array (Option Value)} {ioc22 ikV22 idc22 ipm22 icd22 ict22 : Value} (il22 : K.lookup I22 = some ⟨ioc22, iod22, .func (PySem.W.fnOf "__init__" "NoMark.__init__" (defArgs (clsS (topS 23))) (defBody (clsS (topS 23))) (defScope (clsS (topS 23))) .none ikV22 idc22 ipm22 ian22 icd22 ict22), isl22⟩) (ic22 : PySem.W.codeIn K icd22 "NoMark.__init__" = true) (ik22 : PySem.W.keepIn K (.ref I22) = true)
    {A23 : Addr} (ca23 : PySem.W.nsIn K mainGlobals "BadText" = some (some (.ref A23))) (kx23 : PySem.W.keepIn K (.ref A23) = true) (bp23 : PySem.W.subIn K (.ref A23) (.type "BaseException") = some true) (tp23 : PySem.W.typeIn K (.ref A23) = some (.type "type"))
    {q1_23 q2_23 : Str} {q3_23 : Addr} {q4_23 q5_23 : List Value} {q6_23 : List Str} {q7_23 : List Value} {q8_23 : Bool} {q9_23 : Option Bool} {q10_23 : Option Addr} {q11_23 q12_23 q13_23 q14_23 q15_23 : Option Value} (lk23 : K.lookup A23 = some (excClassObj q1_23 q2_23 A23 q3_23 q4_23 q5_23 true q6_23 q7_23 q8_23 q9_23 q10_23 q11_23 q12_23 q13_23 q14_23 q15_23 "ValueError.__new__")) (rf23 : PySem.HandSPX.refsVE q5_23 = true)
    (sa23 : PySem.W.findIn K (.ref A23) "__setattr__" = some (some (.builtin "object.__setattr__"))) {I23 : Addr} (in23 : PySem.W.findIn K (.ref A23) "__init__" = some (some (.ref I23))) (ti23 : PySem.W.typeIn K (.ref I23) = some (.type "function")) (nf23 : PySem.W.findIn K (.ref A23) "line" = some none)
    {iod23 ian23 : Option Addr} {isl23 : Array (Option Value)} {ioc23 ikV23 idc23 ipm23 icd23 ict23 : Value} (il23 : K.lookup I23 = some ⟨ioc23, iod23, .func (PySem.W.fnOf "__init__" "BadText.__init__" (defArgs (clsS (topS 24))) (defBody (clsS (topS 24))) (defScope (clsS (topS 24))) .none ikV23 idc23 ipm23 ian23 icd23 ict23), isl23⟩) (ic23 : PySem.W.codeIn K icd23 "BadText.__init__" = true) (ik23 : PySem.W.keepIn K (.ref I23) = true)
    (chk : ecsB K (fun n => [A0, A1, A2, A3, A4, A5, A6, A7, A8, A9, A10, A11, A12, A13, A14, A15, A16, A17, A18, A19, A20, A21, A22, A23].getD n 0) 24 FS = true)
    (z_IndexError : PySem.W.nsIn K mainGlobals "IndexError" = some none)
    (z_KeyError : PySem.W.nsIn K mainGlobals "KeyError" = some none)
    (z_LookupError : PySem.W.nsIn K mainGlobals "LookupError" = some none)
    (z_ValueError : PySem.W.nsIn K mainGlobals "ValueError" = some none)
    (z_abs : PySem.W.nsIn K mainGlobals "abs" = some none)
    (z_int : PySem.W.nsIn K mainGlobals "int" = some none)
    (z_isinstance : PySem.W.nsIn K mainGlobals "isinstance" = some none)
    (z_len : PySem.W.nsIn K mainGlobals "len" = some none)
    (z_max : PySem.W.nsIn K mainGlobals "max" = some none)
    (z_range : PySem.W.nsIn K mainGlobals "range" = some none)
    (z_repr : PySem.W.nsIn K mainGlobals "repr" = some none)
    : ∃ (fd : FuncData) (x qual : Str) (st : Stmt) (cl : Nat → Addr), Fun K x qual st fa fd ∧ FnScope N_p_law ["script"] (defScope st) ∧ (∀ (s : Shared) (u : Value), BindsTo s fd ⟨[u], []⟩ [("script", u)]) ∧
        ∀ base : Heap, K.In base → base.Ns mainGlobals mg → ∀ g : Gc, g.K = K → g.cl = cl → g.exn = none → LawBody l.prog w K mg base g qual st N_p_law fa 3 (m_p_law g.ns) := by
  have e := hfa.symm.trans (PySem.W.mg_of X G a7)
  cases e
  have F_law_feed := fun_mk (st := st_law_feed) l0 c0 k0
  have b_law_feed := F_law_feed.binds (ps := ["script", "k"]) fun _ _ _ _ _ _ us hl => match us, hl with | [_, _], _ => rfl
  have F_law_take := fun_mk (st := st_law_take) l1 c1 k1
  have b_law_take := F_law_take.binds (ps := ["feed", "bound"]) fun _ _ _ _ _ _ us hl => match us, hl with | [_, _], _ => rfl
  have F_law_pick := fun_mk (st := st_law_pick) l2 c2 k2
  have b_law_pick := F_law_pick.binds (ps := ["feed", "some"]) fun _ _ _ _ _ _ us hl => match us, hl with | [_, _], _ => rfl
  have F_law_plain := fun_mk (st := st_law_plain) l3 c3 k3
  have b_law_plain := F_law_plain.binds (ps := []) fun _ _ _ _ _ _ us hl => match us, hl with | [], _ => rfl
  have F_law_by_number := fun_mk (st := st_law_by_number) l4 c4 k4
  have b_law_by_number := F_law_by_number.binds (ps := ["value"]) fun _ _ _ _ _ _ us hl => match us, hl with | [_], _ => rfl
  have F_law_kinds := fun_mk (st := st_law_kinds) l5 c5 k5
  have b_law_kinds := F_law_kinds.binds (ps := ["error"]) fun _ _ _ _ _ _ us hl => match us, hl with | [_], _ => rfl
  have F_law_caught := fun_mk (st := st_law_caught) l6 c6 k6
  have b_law_caught := F_law_caught.binds (ps := ["nth", "value"]) fun _ _ _ _ _ _ us hl => match us, hl with | [_, _], _ => rfl
  have F_p_law := fun_mk (st := st_p_law) l7 c7 k7
  have b_p_law := F_p_law.binds (ps := ["script"]) fun _ _ _ _ _ _ us hl => match us, hl with | [_], _ => rfl
  refine ⟨_, "law", "law", st_p_law, (fun n => [A0, A1, A2, A3, A4, A5, A6, A7, A8, A9, A10, A11, A12, A13, A14, A15, A16, A17, A18, A19, A20, A21, A22, A23].getD n 0), F_p_law, sc_p_law, fun s v => .of_eq rfl, fun base _ _ g hK hc hx => ?_⟩
  have m0 : mg "HandError" = some (.ref (g.cl 0)) := by rw [hc]; exact PySem.W.mg_of X G ca0
  have x0 : Xc0 K mg "HandError" (g.cl 0) := by rw [hc]; exact ⟨PySem.W.mg_of X G ca0, kx0, xp0, bp0, tp0⟩
  have m1 : mg "NoList" = some (.ref (g.cl 1)) := by rw [hc]; exact PySem.W.mg_of X G ca1
  have x1 : Xc0 K mg "NoList" (g.cl 1) := by rw [hc]; exact ⟨PySem.W.mg_of X G ca1, kx1, xp1, bp1, tp1⟩
  have m2 : mg "NoTuple" = some (.ref (g.cl 2)) := by rw [hc]; exact PySem.W.mg_of X G ca2
  have x2 : Xc0 K mg "NoTuple" (g.cl 2) := by rw [hc]; exact ⟨PySem.W.mg_of X G ca2, kx2, xp2, bp2, tp2⟩
  have m3 : mg "BadCount" = some (.ref (g.cl 3)) := by rw [hc]; exact PySem.W.mg_of X G ca3
  have x3 : Xc0 K mg "BadCount" (g.cl 3) := by rw [hc]; exact ⟨PySem.W.mg_of X G ca3, kx3, xp3, bp3, tp3⟩
  have m4 : mg "BadStep" = some (.ref (g.cl 4)) := by rw [hc]; exact PySem.W.mg_of X G ca4
  have F4 := fun_mk (st := clsS (topS 5)) il4 ic4 ik4
  have x4 : Xcf l.prog w K mg base "BadStep" "number" (g.cl 4) := by rw [hc]; exact xcf_mk (PySem.W.mg_of X G ca4) (oex_mk lk4 rf4 sa4 bp4 tp4 kx4) in4 ti4 nf4 F4 si_BadStep rfl (F4.binds (ps := ["self", "number"]) fun _ _ _ _ _ _ us hl => match us, hl with | [_, _], _ => rfl) (fun s p u => .of_eq rfl) (by first | exact Or.inl rfl | exact Or.inr (Or.inl rfl) | exact Or.inr (Or.inr rfl)) (by first | exact Or.inl rfl | exact Or.inr (Or.inl rfl) | exact Or.inr (Or.inr rfl)) (by decide) (by decide) (fun X => rfl)
  have m5 : mg "BadPerson" = some (.ref (g.cl 5)) := by rw [hc]; exact PySem.W.mg_of X G ca5
  have F5 := fun_mk (st := clsS (topS 6)) il5 ic5 ik5
  have x5 : Xcf l.prog w K mg base "BadPerson" "number" (g.cl 5) := by rw [hc]; exact xcf_mk (PySem.W.mg_of X G ca5) (oex_mk lk5 rf5 sa5 bp5 tp5 kx5) in5 ti5 nf5 F5 si_BadPerson rfl (F5.binds (ps := ["self", "number"]) fun _ _ _ _ _ _ us hl => match us, hl with | [_, _], _ => rfl) (fun s p u => .of_eq rfl) (by first | exact Or.inl rfl | exact Or.inr (Or.inl rfl) | exact Or.inr (Or.inr rfl)) (by first | exact Or.inl rfl | exact Or.inr (Or.inl rfl) | exact Or.inr (Or.inr rfl)) (by decide) (by decide) (fun X => rfl)
  have m6 : mg "NoStep" = some (.ref (g.cl 6)) := by rw [hc]; exact PySem.W.mg_of X G ca6
  have F6 := fun_mk (st := clsS (topS 7)) il6 ic6 ik6
  have x6 : Xcf l.prog w K mg base "NoStep" "name" (g.cl 6) := by rw [hc]; exact xcf_mk (PySem.W.mg_of X G ca6) (oex_mk lk6 rf6 sa6 bp6 tp6 kx6) in6 ti6 nf6 F6 si_NoStep rfl (F6.binds (ps := ["self", "name"]) fun _ _ _ _ _ _ us hl => match us, hl with | [_, _], _ => rfl) (fun s p u => .of_eq rfl) (by first | exact Or.inl rfl | exact Or.inr (Or.inl rfl) | exact Or.inr (Or.inr rfl)) (by first | exact Or.inl rfl | exact Or.inr (Or.inl rfl) | exact Or.inr (Or.inr rfl)) (by decide) (by decide) (fun X => rfl)
  have m7 : mg "NoPerson" = some (.ref (g.cl 7)) := by rw [hc]; exact PySem.W.mg_of X G ca7
  have F7 := fun_mk (st := clsS (topS 8)) il7 ic7 ik7
  have x7 : Xcf l.prog w K mg base "NoPerson" "name" (g.cl 7) := by rw [hc]; exact xcf_mk (PySem.W.mg_of X G ca7) (oex_mk lk7 rf7 sa7 bp7 tp7 kx7) in7 ti7 nf7 F7 si_NoPerson rfl (F7.binds (ps := ["self", "name"]) fun _ _ _ _ _ _ us hl => match us, hl with | [_, _], _ => rfl) (fun s p u => .of_eq rfl) (by first | exact Or.inl rfl | exact Or.inr (Or.inl rfl) | exact Or.inr (Or.inr rfl)) (by first | exact Or.inl rfl | exact Or.inr (Or.inl rfl) | exact Or.inr (Or.inr rfl)) (by decide) (by decide) (fun X => rfl)
  have m8 : mg "BadPattern" = some (.ref (g.cl 8)) := by rw [hc]; exact PySem.W.mg_of X G ca8
  have x8 : Xc0 K mg "BadPattern" (g.cl 8) := by rw [hc]; exact ⟨PySem.W.mg_of X G ca8, kx8, xp8, bp8, tp8⟩
  have m9 : mg "BadSharing" = some (.ref (g.cl 9)) := by rw [hc]; exact PySem.W.mg_of X G ca9
  have x9 : Xc0 K mg "BadSharing" (g.cl 9) := by rw [hc]; exact ⟨PySem.W.mg_of X G ca9, kx9, xp9, bp9, tp9⟩
  have m10 : mg "BadFact" = some (.ref (g.cl 10)) := by rw [hc]; exact PySem.W.mg_of X G ca10
  have F10 := fun_mk (st := clsS (topS 11)) il10 ic10 ik10
  have x10 : Xcf l.prog w K mg base "BadFact" "number" (g.cl 10) := by rw [hc]; exact xcf_mk (PySem.W.mg_of X G ca10) (oex_mk lk10 rf10 sa10 bp10 tp10 kx10) in10 ti10 nf10 F10 si_BadFact rfl (F10.binds (ps := ["self", "number"]) fun _ _ _ _ _ _ us hl => match us, hl with | [_, _], _ => rfl) (fun s p u => .of_eq rfl) (by first | exact Or.inl rfl | exact Or.inr (Or.inl rfl) | exact Or.inr (Or.inr rfl)) (by first | exact Or.inl rfl | exact Or.inr (Or.inl rfl) | exact Or.inr (Or.inr rfl)) (by decide) (by decide) (fun X => rfl)
  have m11 : mg "BadRule" = some (.ref (g.cl 11)) := by rw [hc]; exact PySem.W.mg_of X G ca11
  have F11 := fun_mk (st := clsS (topS 12)) il11 ic11 ik11
  have x11 : Xcf l.prog w K mg base "BadRule" "number" (g.cl 11) := by rw [hc]; exact xcf_mk (PySem.W.mg_of X G ca11) (oex_mk lk11 rf11 sa11 bp11 tp11 kx11) in11 ti11 nf11 F11 si_BadRule rfl (F11.binds (ps := ["self", "number"]) fun _ _ _ _ _ _ us hl => match us, hl with | [_, _], _ => rfl) (fun s p u => .of_eq rfl) (by first | exact Or.inl rfl | exact Or.inr (Or.inl rfl) | exact Or.inr (Or.inr rfl)) (by first | exact Or.inl rfl | exact Or.inr (Or.inl rfl) | exact Or.inr (Or.inr rfl)) (by decide) (by decide) (fun X => rfl)
  have m12 : mg "NoRule" = some (.ref (g.cl 12)) := by rw [hc]; exact PySem.W.mg_of X G ca12
  have F12 := fun_mk (st := clsS (topS 13)) il12 ic12 ik12
  have x12 : Xcf l.prog w K mg base "NoRule" "number" (g.cl 12) := by rw [hc]; exact xcf_mk (PySem.W.mg_of X G ca12) (oex_mk lk12 rf12 sa12 bp12 tp12 kx12) in12 ti12 nf12 F12 si_NoRule rfl (F12.binds (ps := ["self", "number"]) fun _ _ _ _ _ _ us hl => match us, hl with | [_, _], _ => rfl) (fun s p u => .of_eq rfl) (by first | exact Or.inl rfl | exact Or.inr (Or.inl rfl) | exact Or.inr (Or.inr rfl)) (by first | exact Or.inl rfl | exact Or.inr (Or.inl rfl) | exact Or.inr (Or.inr rfl)) (by decide) (by decide) (fun X => rfl)
  have m13 : mg "BadNumber" = some (.ref (g.cl 13)) := by rw [hc]; exact PySem.W.mg_of X G ca13
  have x13 : Xc0 K mg "BadNumber" (g.cl 13) := by rw [hc]; exact ⟨PySem.W.mg_of X G ca13, kx13, xp13, bp13, tp13⟩
  have m14 : mg "NoSharing" = some (.ref (g.cl 14)) := by rw [hc]; exact PySem.W.mg_of X G ca14
  have F14 := fun_mk (st := clsS (topS 15)) il14 ic14 ik14
  have x14 : Xcf l.prog w K mg base "NoSharing" "number" (g.cl 14) := by rw [hc]; exact xcf_mk (PySem.W.mg_of X G ca14) (oex_mk lk14 rf14 sa14 bp14 tp14 kx14) in14 ti14 nf14 F14 si_NoSharing rfl (F14.binds (ps := ["self", "number"]) fun _ _ _ _ _ _ us hl => match us, hl with | [_, _], _ => rfl) (fun s p u => .of_eq rfl) (by first | exact Or.inl rfl | exact Or.inr (Or.inl rfl) | exact Or.inr (Or.inr rfl)) (by first | exact Or.inl rfl | exact Or.inr (Or.inl rfl) | exact Or.inr (Or.inr rfl)) (by decide) (by decide) (fun X => rfl)
  have m15 : mg "Misfit" = some (.ref (g.cl 15)) := by rw [hc]; exact PySem.W.mg_of X G ca15
  have x15 : Xc0 K mg "Misfit" (g.cl 15) := by rw [hc]; exact ⟨PySem.W.mg_of X G ca15, kx15, xp15, bp15, tp15⟩
  have m16 : mg "Stuck" = some (.ref (g.cl 16)) := by rw [hc]; exact PySem.W.mg_of X G ca16
  have F16 := fun_mk (st := clsS (topS 17)) il16 ic16 ik16
  have x16 : Xcf l.prog w K mg base "Stuck" "tree" (g.cl 16) := by rw [hc]; exact xcf_mk (PySem.W.mg_of X G ca16) (oex_mk lk16 rf16 sa16 bp16 tp16 kx16) in16 ti16 nf16 F16 si_Stuck rfl (F16.binds (ps := ["self", "tree"]) fun _ _ _ _ _ _ us hl => match us, hl with | [_, _], _ => rfl) (fun s p u => .of_eq rfl) (by first | exact Or.inl rfl | exact Or.inr (Or.inl rfl) | exact Or.inr (Or.inr rfl)) (by first | exact Or.inl rfl | exact Or.inr (Or.inl rfl) | exact Or.inr (Or.inr rfl)) (by decide) (by decide) (fun X => rfl)
  have m17 : mg "TooMany" = some (.ref (g.cl 17)) := by rw [hc]; exact PySem.W.mg_of X G ca17
  have x17 : Xc0 K mg "TooMany" (g.cl 17) := by rw [hc]; exact ⟨PySem.W.mg_of X G ca17, kx17, xp17, bp17, tp17⟩
  have m18 : mg "NotReady" = some (.ref (g.cl 18)) := by rw [hc]; exact PySem.W.mg_of X G ca18
  have x18 : Xc0 K mg "NotReady" (g.cl 18) := by rw [hc]; exact ⟨PySem.W.mg_of X G ca18, kx18, xp18, bp18, tp18⟩
  have m19 : mg "NoUndo" = some (.ref (g.cl 19)) := by rw [hc]; exact PySem.W.mg_of X G ca19
  have x19 : Xc0 K mg "NoUndo" (g.cl 19) := by rw [hc]; exact ⟨PySem.W.mg_of X G ca19, kx19, xp19, bp19, tp19⟩
  have m20 : mg "BadBefore" = some (.ref (g.cl 20)) := by rw [hc]; exact PySem.W.mg_of X G ca20
  have F20 := fun_mk (st := clsS (topS 21)) il20 ic20 ik20
  have x20 : Xcf l.prog w K mg base "BadBefore" "number" (g.cl 20) := by rw [hc]; exact xcf_mk (PySem.W.mg_of X G ca20) (oex_mk lk20 rf20 sa20 bp20 tp20 kx20) in20 ti20 nf20 F20 si_BadBefore rfl (F20.binds (ps := ["self", "number"]) fun _ _ _ _ _ _ us hl => match us, hl with | [_, _], _ => rfl) (fun s p u => .of_eq rfl) (by first | exact Or.inl rfl | exact Or.inr (Or.inl rfl) | exact Or.inr (Or.inr rfl)) (by first | exact Or.inl rfl | exact Or.inr (Or.inl rfl) | exact Or.inr (Or.inr rfl)) (by decide) (by decide) (fun X => rfl)
  have m21 : mg "BadPast" = some (.ref (g.cl 21)) := by rw [hc]; exact PySem.W.mg_of X G ca21
  have F21 := fun_mk (st := clsS (topS 22)) il21 ic21 ik21
  have x21 : Xcf l.prog w K mg base "BadPast" "number" (g.cl 21) := by rw [hc]; exact xcf_mk (PySem.W.mg_of X G ca21) (oex_mk lk21 rf21 sa21 bp21 tp21 kx21) in21 ti21 nf21 F21 si_BadPast rfl (F21.binds (ps := ["self", "number"]) fun _ _ _ _ _ _ us hl => match us, hl with | [_, _], _ => rfl) (fun s p u => .of_eq rfl) (by first | exact Or.inl rfl | exact Or.inr (Or.inl rfl) | exact Or.inr (Or.inr rfl)) (by first | exact Or.inl rfl | exact Or.inr (Or.inl rfl) | exact Or.inr (Or.inr rfl)) (by decide) (by decide) (fun X => rfl)
  have m22 : mg "NoMark" = some (.ref (g.cl 22)) := by rw [hc]; exact PySem.W.mg_of X G ca22
  have F22 := fun_mk (st := clsS (topS 23)) il22 ic22 ik22
  have x22 : Xcf l.prog w K mg base "NoMark" "number" (g.cl 22) := by rw [hc]; exact xcf_mk (PySem.W.mg_of X G ca22) (oex_mk lk22 rf22 sa22 bp22 tp22 kx22) in22 ti22 nf22 F22 si_NoMark rfl (F22.binds (ps := ["self", "number"]) fun _ _ _ _ _ _ us hl => match us, hl with | [_, _], _ => rfl) (fun s p u => .of_eq rfl) (by first | exact Or.inl rfl | exact Or.inr (Or.inl rfl) | exact Or.inr (Or.inr rfl)) (by first | exact Or.inl rfl | exact Or.inr (Or.inl rfl) | exact Or.inr (Or.inr rfl)) (by decide) (by decide) (fun X => rfl)
  have m23 : mg "BadText" = some (.ref (g.cl 23)) := by rw [hc]; exact PySem.W.mg_of X G ca23
  have F23 := fun_mk (st := clsS (topS 24)) il23 ic23 ik23
  have x23 : Xcf l.prog w K mg base "BadText" "line" (g.cl 23) := by rw [hc]; exact xcf_mk (PySem.W.mg_of X G ca23) (oex_mk lk23 rf23 sa23 bp23 tp23 kx23) in23 ti23 nf23 F23 si_BadText rfl (F23.binds (ps := ["self", "line"]) fun _ _ _ _ _ _ us hl => match us, hl with | [_, _], _ => rfl) (fun s p u => .of_eq rfl) (by first | exact Or.inl rfl | exact Or.inr (Or.inl rfl) | exact Or.inr (Or.inr rfl)) (by first | exact Or.inl rfl | exact Or.inr (Or.inl rfl) | exact Or.inr (Or.inr rfl)) (by decide) (by decide) (fun X => rfl)
  have B : Fx l.prog w K mg base g := ⟨hK.symm, hx, by rw [hc]; exact ecsB_ok chk, PySem.W.mg_none_of X G z_IndexError, PySem.W.mg_none_of X G z_KeyError, PySem.W.mg_none_of X G z_LookupError, PySem.W.mg_none_of X G z_ValueError, PySem.W.mg_none_of X G z_abs, PySem.W.mg_none_of X G z_int, PySem.W.mg_none_of X G z_isinstance, PySem.W.mg_none_of X G z_len, PySem.W.mg_none_of X G z_max, PySem.W.mg_none_of X G z_range, PySem.W.mg_none_of X G z_repr, m0, x0, m1, x1, m2, x2, m3, x3, m4, x4, m5, x5, m6, x6, m7, x7, m8, x8, m9, x9, m10, x10, m11, x11, m12, x12, m13, x13, m14, x14, m15, x15, m16, x16, m17, x17, m18, x18, m19, x19, m20, x20, m21, x21, m22, x22, m23, x23⟩
  have G_law_feed := ok_law_feed (P := l.prog) (w := w) B F_law_feed
  have G_law_take := ok_law_take (P := l.prog) (w := w) B F_law_take
  have G_law_pick := ok_law_pick (P := l.prog) (w := w) B F_law_pick G_law_take (PySem.W.mg_of X G a1) k1 b_law_take
  have G_law_plain := ok_law_plain (P := l.prog) (w := w) B F_law_plain
  have G_law_by_number := ok_law_by_number (P := l.prog) (w := w) B F_law_by_number
  have G_law_kinds := ok_law_kinds (P := l.prog) (w := w) B F_law_kinds
  have G_law_caught := ok_law_caught (P := l.prog) (w := w) B F_law_caught
  exact body_law (P := l.prog) (w := w) B G_law_caught (PySem.W.mg_of X G a6) k6 b_law_caught G_law_kinds (PySem.W.mg_of X G a5) k5 b_law_kinds G_law_plain (PySem.W.mg_of X G a3) k3 b_law_plain G_law_by_number (PySem.W.mg_of X G a4) k4 b_law_by_number G_law_pick (PySem.W.mg_of X G a2) k2 b_law_pick G_law_feed (PySem.W.mg_of X G a0) k0 b_law_feed
end Law

set_option Elab.async false
set_option linter.all false
set_option maxRecDepth 100000
set_option maxHeartbeats 4100000
namespace Law
open PySem PySem.Spec PyProof.Rows L2 Vm
/-! ### _law_kinds at any heap -/
section
variable {n m c : Nat} {fs : List (Str × U)} {h h0 : Mh} {bs us : List U}
theorem isE_at {tk : Nat → Option Bool} {b : Bool} {o : Option U} (e : h[n]? = some (.exc c fs)) (k : tk c = some b) : mIsE tk (mV 0) [some (.loc n), o] h = .ok (.bl b) h := by
  simp [mIsE, mV, R.bind, excOf, e, k]
theorem isK (d : Nat) {o : Option U} (e : h[n]? = some (.exc c fs)) (hc : c < 24) : mIsE (tk0 24 fun c => c == d || d == 0) (mV 0) [some (.loc n), o] h = .ok (.bl (c == d || d == 0)) h := isE_at e (if_pos hc)
theorem lC_at {A : Me} {L : Ml} {s : Sl} {u : U} (a : A s h = .ok u h) (l : L s h = .ok us h) : lC A L s h = .ok (u :: us) h := by
  simp [lC, a, l, R.bind]
theorem lN_at {s : Sl} : lN s h = .ok [] h := rfl
/-- an error at n, the answers so far at m -/
structure Kn (h0 : Mh) (n c : Nat) (fs : List (Str × U)) (bs : List U) (m : Nat) (h : Mh) : Prop where
  ext : ∃ tl, h = h0 ++ tl ∧ tl.all cleanO = true
  exc : h[n]? = some (.exc c fs)
  lst : h[m]? = some (.lst bs)
theorem get_app {x : Mh} {o : O} (e : h[n]? = some o) : (h ++ x)[n]? = some o := by
  rw [List.getElem?_append_left (List.getElem?_eq_some_iff.mp e).1]
  exact e
theorem get_new {x : Mh} {o : O} : (x ++ [o])[x.length]? = some o := by simp
theorem first_at {L : Ml} (e : h0[n]? = some (.exc c fs)) (l : L [some (.loc n), none] h0 = .ok us h0) (z : us.length ≤ 100000) (cl : us.all clean = true) :
    ∃ m h, sAsg (mL L) (gtN 1) [some (.loc n), none] h0 = .nx [some (.loc n), some (.loc m)] h ∧ Kn h0 n c fs us m h := by
  refine ⟨h0.length, h0 ++ [.lst us], ?_, ⟨[.lst us], rfl, by simp [cleanO, cl]⟩, get_app e, by simp⟩
  simp [sAsg, mL, l, R.bind, R.bindS, z, newO, gtN]
theorem more_at {L : Ml} (k : Kn h0 n c fs bs m h) (l : L [some (.loc n), some (.loc m)] h = .ok us h) (z : bs.length + us.length ≤ 1000) (cl : us.all clean = true) (cb : bs.all clean = true) :
    ∃ m' h', sAsg (m2 fAdd (mV 1) (mL L)) (gtN 1) [some (.loc n), some (.loc m)] h = .nx [some (.loc n), some (.loc m')] h' ∧ Kn h0 n c fs (bs ++ us) m' h' := by
  obtain ⟨tl, rfl, ct⟩ := k.ext
  have z1 : us.length ≤ 100000 := by omega
  have z2 : okLen (bs.length + us.length) = true := by simp [okLen]; omega
  have e1 : ((h0 ++ tl) ++ [O.lst us])[m]? = some (.lst bs) := get_app k.lst
  have e2 : ((h0 ++ tl) ++ [O.lst us])[(h0 ++ tl).length]? = some (.lst us) := by simp
  refine ⟨(h0 ++ tl ++ [O.lst us]).length, h0 ++ tl ++ [O.lst us] ++ [O.lst (bs ++ us)], ?_, ⟨tl ++ [.lst us] ++ [.lst (bs ++ us)], by simp, by simp [cleanO, cl, cb, ct]⟩, get_app (get_app k.exc), get_new⟩
  simp only [sAsg, m2, mV, mL, R.bind, R.bindS, List.getElem?_cons_succ, List.getElem?_cons_zero, l, if_pos z1, newO, fAdd, e1, e2, z2, if_true, gtN]
  rfl
/-- the last row: how many are True -/
theorem last_at {L : Ml} {k : Int} (a : Kn h0 n c fs bs m h) (l : L [some (.loc n), some (.loc m)] h = .ok us h) (z : bs.length + us.length ≤ 1000) (cl : us.all clean = true) (cb : bs.all clean = true)
    (q : ∀ x : Mh, ∀ j : Nat, x[j]? = some (.lst (bs ++ us)) → fCount (.loc j) [.bl true] x = .ok (.int k) x) :
    ∃ tl, sRet (mMtL fCount (m2 fAdd (mV 1) (mL L)) (lC (mC (.bl true)) (lN))) [some (.loc n), some (.loc m)] h = .rt (.int k) (h0 ++ tl) ∧ tl.all cleanO = true := by
  obtain ⟨tl, rfl, ct⟩ := a.ext
  have z1 : us.length ≤ 100000 := by omega
  have z2 : okLen (bs.length + us.length) = true := by simp [okLen]; omega
  have e1 : ((h0 ++ tl) ++ [O.lst us])[m]? = some (.lst bs) := get_app a.lst
  have e2 : ((h0 ++ tl) ++ [O.lst us])[(h0 ++ tl).length]? = some (.lst us) := get_new
  have e3 : (h0 ++ tl ++ [O.lst us] ++ [O.lst (bs ++ us)])[(h0 ++ tl ++ [O.lst us]).length]? = some (.lst (bs ++ us)) := get_new
  refine ⟨tl ++ [.lst us] ++ [.lst (bs ++ us)], ?_, by simp [cleanO, cl, cb, ct]⟩
  have q3 := q _ _ e3
  simp only [sRet, mMtL, m2, mV, mL, mC, lC, lN, R.bind, R.bindS, List.getElem?_cons_succ, List.getElem?_cons_zero, l, if_pos z1, newO, fAdd, e1, e2, z2, if_true, isLst, e3, q3]
  simp
end
/-- the answers for a class, list by list -/
def rowsK : List (List Nat) := [[1, 2, 3], [8, 9], [13], [15, 17], [18], [19, 4], [5], [10, 11], [12], [14, 20], [21], [22, 6], [7], [16, 23]]
def dsK (c : Nat) : List PyData := rowsK.flatten.map fun d => .bool (c == d || d == 0)
def usK (c : Nat) : List U := rowsK.flatten.map fun d => .bl (c == d || d == 0)
theorem dsK_count : ∀ c, c < 24 → (dsK c).countP (fun z => PyData.eqv z (.bool true)) = if c = 0 then 0 else 1 := by decide +kernel
theorem count_at {c j : Nat} {x : Mh} (hc : c < 24) (e : x[j]? = some (.lst (usK c))) : fCount (.loc j) [.bl true] x = .ok (.int (if c = 0 then 0 else 1)) x := by
  have e1 : rd x deep (.loc j) = some (.list (dsK c)) := by
    simp only [rd, deep, e]
    rfl
  have e2 : rd x deep (.bl true) = some (.bool true) := rfl
  have e3 : (PyData.plainAll (dsK c) && (PyData.bool true).plain && decide ((PyData.bool true).depth ≤ 60)) = true := rfl
  simp only [fCount, e1, e2]
  rw [if_pos e3, dsK_count c hc]
  by_cases z : c = 0
  · rw [if_pos z, if_pos z]; rfl
  · rw [if_neg z, if_neg z]; rfl
theorem kinds_at (ns : List Int) {n c : Nat} {fs : List (Str × U)} {h : Mh} (e : h[n]? = some (.exc c fs)) (hc : c < 24) : ∃ tl, d_law_kinds ns [.loc n] h = .ok (.int (if c = 0 then 0 else 1)) (h ++ tl) ∧ tl.all cleanO = true := by
  obtain ⟨m1, h1, r1, k1⟩ := first_at e (lC_at (isK 1 e hc) (lC_at (isK 2 e hc) (lC_at (isK 3 e hc) (lN_at)))) (Nat.le_of_ble_eq_true rfl) rfl
  obtain ⟨m2, h2, r2, k2⟩ := more_at k1 (lC_at (isK 8 k1.exc hc) (lC_at (isK 9 k1.exc hc) (lN_at))) (Nat.le_of_ble_eq_true rfl) rfl rfl
  obtain ⟨m3, h3, r3, k3⟩ := more_at k2 (lC_at (isK 13 k2.exc hc) (lN_at)) (Nat.le_of_ble_eq_true rfl) rfl rfl
  obtain ⟨m4, h4, r4, k4⟩ := more_at k3 (lC_at (isK 15 k3.exc hc) (lC_at (isK 17 k3.exc hc) (lN_at))) (Nat.le_of_ble_eq_true rfl) rfl rfl
  obtain ⟨m5, h5, r5, k5⟩ := more_at k4 (lC_at (isK 18 k4.exc hc) (lN_at)) (Nat.le_of_ble_eq_true rfl) rfl rfl
  obtain ⟨m6, h6, r6, k6⟩ := more_at k5 (lC_at (isK 19 k5.exc hc) (lC_at (isK 4 k5.exc hc) (lN_at))) (Nat.le_of_ble_eq_true rfl) rfl rfl
  obtain ⟨m7, h7, r7, k7⟩ := more_at k6 (lC_at (isK 5 k6.exc hc) (lN_at)) (Nat.le_of_ble_eq_true rfl) rfl rfl
  obtain ⟨m8, h8, r8, k8⟩ := more_at k7 (lC_at (isK 10 k7.exc hc) (lC_at (isK 11 k7.exc hc) (lN_at))) (Nat.le_of_ble_eq_true rfl) rfl rfl
  obtain ⟨m9, h9, r9, k9⟩ := more_at k8 (lC_at (isK 12 k8.exc hc) (lN_at)) (Nat.le_of_ble_eq_true rfl) rfl rfl
  obtain ⟨m10, h10, r10, k10⟩ := more_at k9 (lC_at (isK 14 k9.exc hc) (lC_at (isK 20 k9.exc hc) (lN_at))) (Nat.le_of_ble_eq_true rfl) rfl rfl
  obtain ⟨m11, h11, r11, k11⟩ := more_at k10 (lC_at (isK 21 k10.exc hc) (lN_at)) (Nat.le_of_ble_eq_true rfl) rfl rfl
  obtain ⟨m12, h12, r12, k12⟩ := more_at k11 (lC_at (isK 22 k11.exc hc) (lC_at (isK 6 k11.exc hc) (lN_at))) (Nat.le_of_ble_eq_true rfl) rfl rfl
  obtain ⟨m13, h13, r13, k13⟩ := more_at k12 (lC_at (isK 7 k12.exc hc) (lN_at)) (Nat.le_of_ble_eq_true rfl) rfl rfl
  obtain ⟨tl, r14, ct⟩ := last_at k13 (lC_at (isK 16 k13.exc hc) (lC_at (isK 23 k13.exc hc) (lN_at))) (Nat.le_of_ble_eq_true rfl) rfl rfl (fun x j q => count_at hc q)
  refine ⟨tl, ?_, ct⟩
  show finR (m_law_kinds ns [some (.loc n), none] h) = _
  unfold m_law_kinds
  rw [sSeq, r1]
  simp only
  rw [sSeq, r2]
  simp only
  rw [sSeq, r3]
  simp only
  rw [sSeq, r4]
  simp only
  rw [sSeq, r5]
  simp only
  rw [sSeq, r6]
  simp only
  rw [sSeq, r7]
  simp only
  rw [sSeq, r8]
  simp only
  rw [sSeq, r9]
  simp only
  rw [sSeq, r10]
  simp only
  rw [sSeq, r11]
  simp only
  rw [sSeq, r12]
  simp only
  rw [sSeq, r13]
  simp only
  rw [r14]
  rfl
end Law

set_option Elab.async false
set_option linter.all false
set_option maxRecDepth 100000
set_option maxHeartbeats 4100000
namespace Law
open PySem PySem.Spec PyProof.Rows L2 Vm
/-! ### the row that asks all errors of how many kinds they are -/
def qK (ns : List Int) : Mb := bV (m2 fNe (mCall (d_law_kinds ns) (lC (mV 7) (lN))) (mC (.int 1)))
theorem ne_int (i j : Int) (h : Mh) : fNe (.int i) (.int j) h = .ok (.bl (!PyData.eqv (.int i) (.int j))) h := rfl
theorem qK_at (ns : List Int) {s : Sl} {n c : Nat} {fs : List (Str × U)} {h : Mh} (e7 : s[7]? = some (some (.loc n))) (e : h[n]? = some (.exc c fs)) (h0 : 0 < c) (hc : c < 24) : ∃ tl, qK ns s h = .ok false (h ++ tl) ∧ tl.all cleanO = true := by
  obtain ⟨tl, r, ct⟩ := kinds_at ns e hc
  rw [if_neg (by omega)] at r
  refine ⟨tl, ?_, ct⟩
  simp only [qK, bV, m2, mCall, lC, lN, mV, e7, R.bind, r, mC, ne_int]
  rfl
theorem loopK (ns : List Int) {s : Sl} {m r : Nat} {xs : List U} (hs : 7 < s.length) : ∀ (k i : Nat) (h : Mh), h[m]? = some (.lst xs) → (∀ x ∈ xs, ∃ n c fs, x = .loc n ∧ h[n]? = some (.exc c fs) ∧ 0 < c ∧ c < 24) → i ≤ xs.length → xs.length < k + i →
    ∃ tl, loopC (itL m) (gtN 7) (qK ns) (mV 7) s r k i h = .ok (.loc r) (h ++ tl) ∧ tl.all cleanO = true := by
  intro k
  induction k with
  | zero =>
    intro i h em hx hi hl
    omega
  | succ k ih =>
    intro i h em hx hi hl
    cases ex : xs[i]? with
    | none =>
      refine ⟨[], ?_, rfl⟩
      simp [loopC, itL, em, ex]
    | some x =>
      obtain ⟨n, c, fs, rfl, en, c0, c1⟩ := hx x (List.mem_of_getElem? ex)
      obtain ⟨t1, q1, ct1⟩ := qK_at ns (s := s.set 7 (some (.loc n))) (by simp [hs]) en c0 c1
      obtain ⟨t2, q2, ct2⟩ := ih (i + 1) (h ++ t1) (get_app em) (fun y hy => by
        obtain ⟨n', c', fs', a, b, d⟩ := hx y hy
        exact ⟨n', c', fs', a, get_app b, d⟩) (by have := (List.getElem?_eq_some_iff.mp ex).1; omega) (by omega)
      refine ⟨t1 ++ t2, ?_, by simp [ct1, ct2]⟩
      rw [← List.append_assoc, ← q2]
      simp [loopC, itL, em, ex, gtN, q1]
theorem ne_nil {a b : Nat} {h : Mh} (ea : h[a]? = some (.lst [])) (eb : h[b]? = some (.lst [])) : fNe (.loc a) (.loc b) h = .ok (.bl false) h := by
  have e1 : rd h deep (.loc a) = some (.list []) := by
    simp only [rd, deep, ea]
    rfl
  have e2 : rd h deep (.loc b) = some (.list []) := by
    simp only [rd, deep, eb]
    rfl
  have e3 : fEqB (.loc a) (.loc b) h = some true := by
    simp only [fEqB, e1, e2]
    rfl
  simp only [fNe, e3]
  rfl
theorem ls8_at (ns : List Int) {s : Sl} {m : Nat} {xs : List U} {h : Mh} (hs : s.length = 11) (e6 : s[6]? = some (some (.loc m))) (em : h[m]? = some (.lst xs)) (hx : ∀ x ∈ xs, ∃ n c fs, x = .loc n ∧ h[n]? = some (.exc c fs) ∧ 0 < c ∧ c < 24) (hl : xs.length < 1000) :
    ∃ tl, ls8 ns s h = .nx s (h ++ tl) ∧ tl.all cleanO = true := by
  obtain ⟨t1, q1, c1⟩ := loopK ns (s := wipeM s [7]) (m := m) (r := h.length) (by simp [wipeM, hs]) lim 0 (h ++ [.lst []]) (get_app em) (fun x y => by
    obtain ⟨n, c, fs, a, b, d⟩ := hx x y
    exact ⟨n, c, fs, a, get_app b, d⟩) (Nat.zero_le _) (by show xs.length < 100000 + 0; omega)
  have r0 : (h ++ [O.lst []] ++ t1 ++ [O.lst []])[h.length]? = some (.lst []) := get_app (get_app get_new)
  have r1 : (h ++ [O.lst []] ++ t1 ++ [O.lst []])[(h ++ [O.lst []] ++ t1).length]? = some (.lst []) := get_new
  have lc : mLc (iL (mV 6)) (gtN 7) (qK ns) (mV 7) [7] s h = .ok (.loc h.length) (h ++ [.lst []] ++ t1) := by
    simp only [mLc, iL, mV, e6, R.bind, em]
    exact q1
  have re : (h ++ [O.lst []] ++ t1 ++ [O.lst []] ++ [O.exc 0 []])[(h ++ [O.lst []] ++ t1 ++ [O.lst []]).length]? = some (.exc 0 []) := get_new
  obtain ⟨t2, q2, c2⟩ := kinds_at ns re (by decide)
  rw [if_pos rfl] at q2
  refine ⟨[O.lst []] ++ t1 ++ [O.lst []] ++ [O.exc 0 []] ++ t2, ?_, by simp [cleanO, c1, c2]⟩
  have ass : h ++ ([O.lst []] ++ t1 ++ [O.lst []] ++ [O.exc 0 []] ++ t2) = h ++ [O.lst []] ++ t1 ++ [O.lst []] ++ [O.exc 0 []] ++ t2 := by simp
  rw [ass]
  show sIf (bOr (bV (m2 fNe (mLc (iL (mV 6)) (gtN 7) (qK ns) (mV 7) [7]) (mL (lN)))) (bV (m2 fNe (mCall (d_law_kinds ns) (lC (mExn0 0) (lN))) (mC (.int 0))))) (sRet (mC (.bl false))) (sPass) s h = _
  simp only [sIf, bOr, bV, m2, lc, R.bind, mL, lN, newO, List.length_nil, Nat.zero_le, if_true, ne_nil r0 r1, asB, mCall, lC, mExn0, q2, mC, ne_int, R.bindS]
  rfl
end Law

set_option Elab.async false
set_option linter.all false
set_option maxRecDepth 100000
set_option maxHeartbeats 4100000
namespace Law
open PySem PySem.Spec PyProof.Rows L2 Vm
theorem ls9_at (ns : List Int) {s : Sl} {h : Mh} : ls9 ns s h = .nx ((s.set 8 (some (.loc h.length))).set 9 (some (.loc (h ++ [O.exc 10 [("number", .int 0)]]).length))) (h ++ [.exc 10 [("number", .int 0)]] ++ [.exc 11 [("number", .int 0)]]) := by
  simp only [ls9, sPar, lC, lN, mExn, mC, newO, R.bind, R.bindS]
theorem isE_any {A : Me} {tk : Nat → Option Bool} {s : Sl} {h h1 : Mh} {n c : Nat} {fs : List (Str × U)} {b : Bool} (a : A s h = .ok (.loc n) h1) (e : h1[n]? = some (.exc c fs)) (k : tk c = some b) : mIsE tk A s h = .ok (.bl b) h1 := by
  simp [mIsE, a, R.bind, excOf, e, k]
theorem ls10_at (ns : List Int) {s : Sl} {h : Mh} {a b : Nat} {fa fb : List (Str × U)} (e8 : s[8]? = some (some (.loc a))) (e9 : s[9]? = some (some (.loc b))) (ea : h[a]? = some (.exc 10 fa)) (eb : h[b]? = some (.exc 11 fb)) :
    ls10 ns s h = .nx s (h ++ [.exc 6 [("name", .str "a")]]) := by
  have r1 : mIsE (tk0 24 fun c => c == 11 || 11 == 0) (mV 8) s h = .ok (.bl false) h := isE_any (c := 10) (by simp only [mV, e8]) ea rfl
  have r2 : mIsE (tk0 24 fun c => c == 10 || 10 == 0) (mV 9) s h = .ok (.bl false) h := isE_any (c := 11) (by simp only [mV, e9]) eb rfl
  have r3 : mIsE (tk0 24 fun c => c == 7 || 7 == 0) (mExn 6 "name" (mC (.str "a"))) s h = .ok (.bl false) (h ++ [.exc 6 [("name", .str "a")]]) := isE_any (c := 6) (n := h.length) rfl get_new rfl
  simp only [ls10, sIf, bOr, bV, r1, r2, r3, R.bind, R.bindS, asB, sPass]
theorem caught0 (ns : List Int) {u : U} {h : Mh} (cu : clean u = true) (ch : h.all cleanO = true) : d_law_caught ns [.int 0, u] h = .ok u h := by
  show finR (m_law_caught ns [some (.int 0), some u, none] h) = _
  have e : (clean u && h.all cleanO) = true := by rw [cu, ch] <;> rfl
  have q : fEq (.int 0) (.int 0) h = .ok (.bl true) h := rfl
  simp only [m_law_caught, sTryAs, sSeq, sIf, bV, m2, mV, mC, q, R.bind, R.bindS, asB, List.getElem?_cons_succ, List.getElem?_cons_zero, sRaise1, tk0, unslot, sRet, mIf, List.set, mXf]
  simp [unslot, sRet, mIf, mXf, bV, m2, mV, mC, q, R.bind, R.bindS, asB, e, finR, List.lookup]
theorem caught1 (ns : List Int) {u : U} {h : Mh} (cu : clean u = true) (ch : h.all cleanO = true) : d_law_caught ns [.int 1, u] h = .ok u h := by
  show finR (m_law_caught ns [some (.int 1), some u, none] h) = _
  have e : (clean u && h.all cleanO) = true := by rw [cu, ch] <;> rfl
  have q : fEq (.int 1) (.int 0) h = .ok (.bl false) h := rfl
  simp only [m_law_caught, sTryAs, sSeq, sIf, bV, m2, mV, mC, q, R.bind, R.bindS, asB, List.getElem?_cons_succ, List.getElem?_cons_zero, sRaise1, tk0, unslot, sRet, mIf, List.set, mXf, sPass]
  simp [unslot, sRet, mIf, mXf, bV, m2, mV, mC, q, R.bind, R.bindS, asB, e, finR, List.lookup]
end Law

set_option Elab.async false
set_option linter.all false
set_option maxRecDepth 100000
set_option maxHeartbeats 4100000
namespace Law
open PySem PySem.Spec PyProof.Rows L2 Vm
theorem set_new {h : Mh} {a b : O} : (h ++ [a]).set h.length b = h ++ [b] := by simp
/-- what the value's text may be: the same at every longer heap -/
def Shows (u : U) (x : Str) (h : Mh) : Prop := ∀ h' : Mh, (∀ (k : Nat) (o : O), h[k]? = some o → h'[k]? = some o) → fRepr [u] h' = .ok (.str x) h'
theorem Shows.at {u : U} {x : Str} {h tl : Mh} (s : Shows u x h) : fRepr [u] (h ++ tl) = .ok (.str x) (h ++ tl) := s _ fun _ _ e => get_app e
/-- equal texts are equal, also in lists -/
def Same (x : Str) (n : Nat) : Prop := SeqAt.shaped (.list (List.replicate n (.str x))) = true ∧ PyData.eqv (.list (List.replicate n (.str x))) (.list (List.replicate n (.str x))) = true
theorem rdL_rep (f : U → Option PyData) {x : Str} (hf : f (.str x) = some (.str x)) : ∀ n : Nat, rdL f (List.replicate n (.str x)) = some (List.replicate n (.str x))
  | 0 => rfl
  | n + 1 => by
    rw [List.replicate_succ, List.replicate_succ, rdL, hf, rdL_rep f hf n]
theorem eqB_rep {x : Str} {a b n : Nat} {h : Mh} (q : Same x n) (ea : h[a]? = some (.lst (List.replicate n (.str x)))) (eb : h[b]? = some (.lst (List.replicate n (.str x)))) : fEqB (.loc a) (.loc b) h = some true := by
  have e1 : rd h deep (.loc a) = some (.list (List.replicate n (.str x))) := by
    simp only [rd, deep, ea]
    rw [rdL_rep _ rfl]
  have e2 : rd h deep (.loc b) = some (.list (List.replicate n (.str x))) := by
    simp only [rd, deep, eb]
    rw [rdL_rep _ rfl]
  simp only [fEqB, e1, e2, q.1, q.2, Bool.and_self, if_true]
theorem loopC_go {it : Itm} {t : Gt} {q : Mb} {e : Me} {s s1 : Sl} {n k i : Nat} {h h3 : Mh} {x y : U} {acc : List U} (hi : it i h = .ok (some x) h) (ht : t x s h = some s1) (hq : q s1 h = .ok true h) (he : e s1 h = .ok y h3) (hn : h3[n]? = some (.lst acc)) (hz : acc.length < 100000) :
    loopC it t q e s n (k + 1) i h = loopC it t q e s n k (i + 1) (h3.set n (.lst (acc ++ [y]))) := by
  simp only [loopC, hi, ht, hq, he, hn, if_pos hz]
theorem loopC_end {it : Itm} {t : Gt} {q : Mb} {e : Me} {s : Sl} {n k i : Nat} {h : Mh} (hi : it i h = .ok none h) : loopC it t q e s n (k + 1) i h = .ok (.loc n) h := by
  simp only [loopC, hi]
theorem ls11_at (ns : List Int) {s : Sl} {h : Mh} {u : U} {x : Str} (hs : s.length = 11) (e2 : s[2]? = some (some u)) (cu : clean u = true) (ch : h.all cleanO = true) (sh : Shows u x h) (q : Same x 2) : ∃ h', ls11 ns s h = .rt (.bl true) h' := by
  have w2 : ∀ i : Int, ((wipeM s [10]).set 10 (some (.int i)))[2]? = some (some u) := fun i => by simp [wipeM, e2]
  have w10 : ∀ i : Int, ((wipeM s [10]).set 10 (some (.int i)))[10]? = some (some (.int i)) := fun i => by simp [wipeM, hs]
  have lc : mLc (iR1 (lC (mC (.int 2)) (lN))) (gtN 10) (bYes) (mBt (fRepr) (lC (mCall (d_law_caught ns) (lC (mV 10) (lC (mV 2) (lN)))) (lN))) [10] s h = .ok (.loc h.length) (h ++ [.lst [.str x, .str x]]) := by
    have c1 : ∀ us : List U, us.all clean = true → (h ++ [O.lst us]).all cleanO = true := fun us z => by simp [cleanO, z, ch]
    have a0 := caught0 ns cu (c1 [] rfl)
    have a1 := caught1 ns cu (c1 [.str x] rfl)
    have b0 := sh.at (tl := [O.lst []])
    have b1 := sh.at (tl := [O.lst [.str x]])
    have g0 : (h ++ [O.lst []])[h.length]? = some (.lst []) := get_new
    have g1 : (h ++ [O.lst [.str x]])[h.length]? = some (.lst [.str x]) := get_new
    let E : Me := mBt (fRepr) (lC (mCall (d_law_caught ns) (lC (mV 10) (lC (mV 2) (lN)))) (lN))
    have E0 : E ((wipeM s [10]).set 10 (some (.int 0))) (h ++ [O.lst []]) = .ok (.str x) (h ++ [O.lst []]) := by
      simp only [E, mBt, lC, lN, mCall, mV, w2, w10, R.bind, a0, b0]
    have E1 : E ((wipeM s [10]).set 10 (some (.int 1))) (h ++ [O.lst [.str x]]) = .ok (.str x) (h ++ [O.lst [.str x]]) := by
      simp only [E, mBt, lC, lN, mCall, mV, w2, w10, R.bind, a1, b1]
    show loopC (itR 0 2) (gtN 10) bYes E (wipeM s [10]) h.length (99999 + 1) 0 (h ++ [O.lst []]) = _
    refine (loopC_go (q := bYes) (i := 0) (x := .int 0) (s1 := (wipeM s [10]).set 10 (some (.int 0))) (y := .str x) rfl rfl rfl E0 g0 (by decide)).trans ?_
    rw [set_new]
    show loopC (itR 0 2) (gtN 10) bYes E (wipeM s [10]) h.length (99998 + 1) 1 (h ++ [O.lst [.str x]]) = _
    refine (loopC_go (q := bYes) (i := 1) (x := .int 1) (s1 := (wipeM s [10]).set 10 (some (.int 1))) (y := .str x) (acc := [.str x]) rfl rfl rfl E1 g1 (show 1 < 100000 by decide)).trans ?_
    rw [set_new]
    show loopC (itR 0 2) (gtN 10) bYes E (wipeM s [10]) h.length (99997 + 1) 2 (h ++ [O.lst [.str x, .str x]]) = _
    exact loopC_end (i := 2) rfl
  have r := sh.at (tl := [O.lst [.str x, .str x]])
  have f1 : (h ++ [O.lst [.str x, .str x]] ++ [O.lst [.str x]])[(h ++ [O.lst [.str x, .str x]]).length]? = some (.lst [.str x]) := get_new
  have rep : (List.replicate (Int.toNat 2) [U.str x]).flatten = [.str x, .str x] := rfl
  have m : m2 fMul (mL (lC (mBt (fRepr) (lC (mV 2) (lN))) (lN))) (mC (.int 2)) s (h ++ [O.lst [.str x, .str x]]) = .ok (.loc (h ++ [O.lst [.str x, .str x]] ++ [O.lst [.str x]]).length) (h ++ [O.lst [.str x, .str x]] ++ [O.lst [.str x]] ++ [O.lst [.str x, .str x]]) := by
    have o1 : (decide (-(2 ^ 63 : Int) ≤ 2 ∧ (2 : Int) < 2 ^ 63) && okLen ([U.str x].length * Int.toNat 2)) = true := rfl
    have o2 : [U.str x].length ≤ 100000 := by show 1 ≤ 100000; decide
    simp only [m2, mL, lC, lN, mBt, mV, e2, R.bind, r, newO, mC, fMul, f1, if_pos o2]
    rw [if_pos o1, rep]
  have g1 : (h ++ [O.lst [.str x, .str x]] ++ [O.lst [.str x]] ++ [O.lst [.str x, .str x]])[h.length]? = some (.lst (List.replicate 2 (.str x))) := get_app (get_app get_new)
  have g2 : (h ++ [O.lst [.str x, .str x]] ++ [O.lst [.str x]] ++ [O.lst [.str x, .str x]])[(h ++ [O.lst [.str x, .str x]] ++ [O.lst [.str x]]).length]? = some (.lst (List.replicate 2 (.str x))) := get_new
  have k := eqB_rep q g1 g2
  have z : m2 fEq (mLc (iR1 (lC (mC (.int 2)) (lN))) (gtN 10) (bYes) (mBt (fRepr) (lC (mCall (d_law_caught ns) (lC (mV 10) (lC (mV 2) (lN)))) (lN))) [10]) (m2 fMul (mL (lC (mBt (fRepr) (lC (mV 2) (lN))) (lN))) (mC (.int 2))) s h = .ok (.bl true) (h ++ [O.lst [.str x, .str x]] ++ [O.lst [.str x]] ++ [O.lst [.str x, .str x]]) := by
    refine (congrArg (fun r : R U => r.bind fun x h1 => (m2 fMul (mL (lC (mBt (fRepr) (lC (mV 2) (lN))) (lN))) (mC (.int 2)) s h1).bind fun y h2 => fEq x y h2) lc).trans ?_
    refine (congrArg (fun r : R U => r.bind fun y h2 => fEq (.loc h.length) y h2) m).trans ?_
    show fEq _ _ _ = _
    simp only [fEq, k]
  refine ⟨h ++ [O.lst [.str x, .str x]] ++ [O.lst [.str x]] ++ [O.lst [.str x, .str x]], ?_⟩
  exact congrArg (fun r : R U => r.bindS s fun u h1 => RS.rt u h1) z
end Law

set_option Elab.async false
set_option linter.all false
set_option maxRecDepth 1000000
set_option maxHeartbeats 4100000
namespace Law
open PySem PySem.Spec PyProof.Rows L2 Vm
def S0 (u : U) (x : Str) : List (Option U) := [some (.scr), some (.loc 0), some (u), none, none, none, none, none, none, none, none]
def H0 (u : U) (x : Str) (d t : Int) : List O := [.lst [.int d, .int t], .tup [.str "rule", .int 0], .lst [.str "a"], .tup [], .lst [.int 0, .int 3, .non, .loc 1, .loc 2, .str "ann", .int 1000000000000000000000000000000, .bl true, .loc 3]]
def S1 (u : U) (x : Str) : List (Option U) := [some (.scr), some (.loc 0), some (u), some (.loc 9), none, none, none, none, none, none, none]
def H1 (u : U) (x : Str) (d t : Int) : List O := [.lst [.int d, .int t], .tup [.str "rule", .int 0], .lst [.str "a"], .tup [], .lst [.int 0, .int 3, .non, .loc 1, .loc 2, .str "ann", .int 1000000000000000000000000000000, .bl true, .loc 3], .exc 6 [("name", u)], .exc 7 [("name", u)], .exc 6 [("name", u)], .exc 7 [("name", u)], .lst [.loc 5, .loc 6, .loc 7, .loc 8]]
def S2 (u : U) (x : Str) : List (Option U) := [some (.scr), some (.loc 0), some (u), some (.loc 9), some (.loc 43), none, none, none, none, none, none]
def H2 (u : U) (x : Str) (d t : Int) : List O := [.lst [.int d, .int t], .tup [.str "rule", .int 0], .lst [.str "a"], .tup [], .lst [.int 0, .int 3, .non, .loc 1, .loc 2, .str "ann", .int 1000000000000000000000000000000, .bl true, .loc 3], .exc 6 [("name", u)], .exc 7 [("name", u)], .exc 6 [("name", u)], .exc 7 [("name", u)], .lst [.loc 5, .loc 6, .loc 7, .loc 8], .exc 4 [("number", u)], .exc 5 [("number", u)], .exc 10 [("number", u)], .exc 11 [("number", u)], .lst [.loc 10, .loc 11, .loc 12, .loc 13], .exc 12 [("number", u)], .exc 14 [("number", u)], .lst [.loc 15, .loc 16], .lst [.loc 10, .loc 11, .loc 12, .loc 13, .loc 15, .loc 16], .exc 20 [("number", u)], .exc 21 [("number", u)], .exc 22 [("number", u)], .exc 4 [("number", u)], .lst [.loc 19, .loc 20, .loc 21, .loc 22], .lst [.loc 10, .loc 11, .loc 12, .loc 13, .loc 15, .loc 16, .loc 19, .loc 20, .loc 21, .loc 22], .exc 5 [("number", u)], .lst [.loc 25], .lst [.loc 10, .loc 11, .loc 12, .loc 13, .loc 15, .loc 16, .loc 19, .loc 20, .loc 21, .loc 22, .loc 25], .exc 10 [("number", u)], .exc 11 [("number", u)], .exc 12 [("number", u)], .lst [.loc 28, .loc 29, .loc 30], .lst [.loc 10, .loc 11, .loc 12, .loc 13, .loc 15, .loc 16, .loc 19, .loc 20, .loc 21, .loc 22, .loc 25, .loc 28, .loc 29, .loc 30], .exc 14 [("number", u)], .lst [.loc 33], .lst [.loc 10, .loc 11, .loc 12, .loc 13, .loc 15, .loc 16, .loc 19, .loc 20, .loc 21, .loc 22, .loc 25, .loc 28, .loc 29, .loc 30, .loc 33], .exc 20 [("number", u)], .exc 21 [("number", u)], .exc 22 [("number", u)], .lst [.loc 36, .loc 37, .loc 38], .lst [.loc 10, .loc 11, .loc 12, .loc 13, .loc 15, .loc 16, .loc 19, .loc 20, .loc 21, .loc 22, .loc 25, .loc 28, .loc 29, .loc 30, .loc 33, .loc 36, .loc 37, .loc 38], .lst [.str x, .str x, .str x, .str x, .str x, .str x, .str x, .str x, .str x, .str x, .str x, .str x, .str x, .str x, .str x, .str x, .str x, .str x], .lst [.str x, .str x, .str x, .str x], .lst [.str x, .str x, .str x, .str x, .str x, .str x, .str x, .str x, .str x, .str x, .str x, .str x, .str x, .str x, .str x, .str x, .str x, .str x, .str x, .str x, .str x, .str x]]
def S3 (u : U) (x : Str) : List (Option U) := [some (.scr), some (.loc 0), some (u), some (.loc 9), some (.loc 43), none, none, none, none, none, none]
def H3 (u : U) (x : Str) (d t : Int) : List O := [.lst [.int d, .int t], .tup [.str "rule", .int 0], .lst [.str "a"], .tup [], .lst [.int 0, .int 3, .non, .loc 1, .loc 2, .str "ann", .int 1000000000000000000000000000000, .bl true, .loc 3], .exc 6 [("name", u)], .exc 7 [("name", u)], .exc 6 [("name", u)], .exc 7 [("name", u)], .lst [.loc 5, .loc 6, .loc 7, .loc 8], .exc 4 [("number", u)], .exc 5 [("number", u)], .exc 10 [("number", u)], .exc 11 [("number", u)], .lst [.loc 10, .loc 11, .loc 12, .loc 13], .exc 12 [("number", u)], .exc 14 [("number", u)], .lst [.loc 15, .loc 16], .lst [.loc 10, .loc 11, .loc 12, .loc 13, .loc 15, .loc 16], .exc 20 [("number", u)], .exc 21 [("number", u)], .exc 22 [("number", u)], .exc 4 [("number", u)], .lst [.loc 19, .loc 20, .loc 21, .loc 22], .lst [.loc 10, .loc 11, .loc 12, .loc 13, .loc 15, .loc 16, .loc 19, .loc 20, .loc 21, .loc 22], .exc 5 [("number", u)], .lst [.loc 25], .lst [.loc 10, .loc 11, .loc 12, .loc 13, .loc 15, .loc 16, .loc 19, .loc 20, .loc 21, .loc 22, .loc 25], .exc 10 [("number", u)], .exc 11 [("number", u)], .exc 12 [("number", u)], .lst [.loc 28, .loc 29, .loc 30], .lst [.loc 10, .loc 11, .loc 12, .loc 13, .loc 15, .loc 16, .loc 19, .loc 20, .loc 21, .loc 22, .loc 25, .loc 28, .loc 29, .loc 30], .exc 14 [("number", u)], .lst [.loc 33], .lst [.loc 10, .loc 11, .loc 12, .loc 13, .loc 15, .loc 16, .loc 19, .loc 20, .loc 21, .loc 22, .loc 25, .loc 28, .loc 29, .loc 30, .loc 33], .exc 20 [("number", u)], .exc 21 [("number", u)], .exc 22 [("number", u)], .lst [.loc 36, .loc 37, .loc 38], .lst [.loc 10, .loc 11, .loc 12, .loc 13, .loc 15, .loc 16, .loc 19, .loc 20, .loc 21, .loc 22, .loc 25, .loc 28, .loc 29, .loc 30, .loc 33, .loc 36, .loc 37, .loc 38], .lst [.str x, .str x, .str x, .str x, .str x, .str x, .str x, .str x, .str x, .str x, .str x, .str x, .str x, .str x, .str x, .str x, .str x, .str x], .lst [.str x, .str x, .str x, .str x], .lst [.str x, .str x, .str x, .str x, .str x, .str x, .str x, .str x, .str x, .str x, .str x, .str x, .str x, .str x, .str x, .str x, .str x, .str x, .str x, .str x, .str x, .str x], .lst [.str x], .lst [.str x, .str x, .str x, .str x, .str x, .str x, .str x, .str x, .str x, .str x, .str x, .str x, .str x, .str x, .str x, .str x, .str x, .str x, .str x, .str x, .str x, .str x]]
def S4 (u : U) (x : Str) : List (Option U) := [some (.scr), some (.loc 0), some (u), some (.loc 9), some (.loc 43), some (.loc 50), none, none, none, none, none]
def H4 (u : U) (x : Str) (d t : Int) : List O := [.lst [.int d, .int t], .tup [.str "rule", .int 0], .lst [.str "a"], .tup [], .lst [.int 0, .int 3, .non, .loc 1, .loc 2, .str "ann", .int 1000000000000000000000000000000, .bl true, .loc 3], .exc 6 [("name", u)], .exc 7 [("name", u)], .exc 6 [("name", u)], .exc 7 [("name", u)], .lst [.loc 5, .loc 6, .loc 7, .loc 8], .exc 4 [("number", u)], .exc 5 [("number", u)], .exc 10 [("number", u)], .exc 11 [("number", u)], .lst [.loc 10, .loc 11, .loc 12, .loc 13], .exc 12 [("number", u)], .exc 14 [("number", u)], .lst [.loc 15, .loc 16], .lst [.loc 10, .loc 11, .loc 12, .loc 13, .loc 15, .loc 16], .exc 20 [("number", u)], .exc 21 [("number", u)], .exc 22 [("number", u)], .exc 4 [("number", u)], .lst [.loc 19, .loc 20, .loc 21, .loc 22], .lst [.loc 10, .loc 11, .loc 12, .loc 13, .loc 15, .loc 16, .loc 19, .loc 20, .loc 21, .loc 22], .exc 5 [("number", u)], .lst [.loc 25], .lst [.loc 10, .loc 11, .loc 12, .loc 13, .loc 15, .loc 16, .loc 19, .loc 20, .loc 21, .loc 22, .loc 25], .exc 10 [("number", u)], .exc 11 [("number", u)], .exc 12 [("number", u)], .lst [.loc 28, .loc 29, .loc 30], .lst [.loc 10, .loc 11, .loc 12, .loc 13, .loc 15, .loc 16, .loc 19, .loc 20, .loc 21, .loc 22, .loc 25, .loc 28, .loc 29, .loc 30], .exc 14 [("number", u)], .lst [.loc 33], .lst [.loc 10, .loc 11, .loc 12, .loc 13, .loc 15, .loc 16, .loc 19, .loc 20, .loc 21, .loc 22, .loc 25, .loc 28, .loc 29, .loc 30, .loc 33], .exc 20 [("number", u)], .exc 21 [("number", u)], .exc 22 [("number", u)], .lst [.loc 36, .loc 37, .loc 38], .lst [.loc 10, .loc 11, .loc 12, .loc 13, .loc 15, .loc 16, .loc 19, .loc 20, .loc 21, .loc 22, .loc 25, .loc 28, .loc 29, .loc 30, .loc 33, .loc 36, .loc 37, .loc 38], .lst [.str x, .str x, .str x, .str x, .str x, .str x, .str x, .str x, .str x, .str x, .str x, .str x, .str x, .str x, .str x, .str x, .str x, .str x], .lst [.str x, .str x, .str x, .str x], .lst [.str x, .str x, .str x, .str x, .str x, .str x, .str x, .str x, .str x, .str x, .str x, .str x, .str x, .str x, .str x, .str x, .str x, .str x, .str x, .str x, .str x, .str x], .lst [.str x], .lst [.str x, .str x, .str x, .str x, .str x, .str x, .str x, .str x, .str x, .str x, .str x, .str x, .str x, .str x, .str x, .str x, .str x, .str x, .str x, .str x, .str x, .str x], .exc 16 [("tree", u)], .exc 16 [("tree", u)], .exc 23 [("line", u)], .exc 23 [("line", u)], .lst [.loc 46, .loc 47, .loc 48, .loc 49]]
def S5 (u : U) (x : Str) : List (Option U) := [some (.scr), some (.loc 0), some (u), some (.loc 9), some (.loc 43), some (.loc 50), none, none, none, none, none]
def H5 (u : U) (x : Str) (d t : Int) : List O := [.lst [.int d, .int t], .tup [.str "rule", .int 0], .lst [.str "a"], .tup [], .lst [.int 0, .int 3, .non, .loc 1, .loc 2, .str "ann", .int 1000000000000000000000000000000, .bl true, .loc 3], .exc 6 [("name", u)], .exc 7 [("name", u)], .exc 6 [("name", u)], .exc 7 [("name", u)], .lst [.loc 5, .loc 6, .loc 7, .loc 8], .exc 4 [("number", u)], .exc 5 [("number", u)], .exc 10 [("number", u)], .exc 11 [("number", u)], .lst [.loc 10, .loc 11, .loc 12, .loc 13], .exc 12 [("number", u)], .exc 14 [("number", u)], .lst [.loc 15, .loc 16], .lst [.loc 10, .loc 11, .loc 12, .loc 13, .loc 15, .loc 16], .exc 20 [("number", u)], .exc 21 [("number", u)], .exc 22 [("number", u)], .exc 4 [("number", u)], .lst [.loc 19, .loc 20, .loc 21, .loc 22], .lst [.loc 10, .loc 11, .loc 12, .loc 13, .loc 15, .loc 16, .loc 19, .loc 20, .loc 21, .loc 22], .exc 5 [("number", u)], .lst [.loc 25], .lst [.loc 10, .loc 11, .loc 12, .loc 13, .loc 15, .loc 16, .loc 19, .loc 20, .loc 21, .loc 22, .loc 25], .exc 10 [("number", u)], .exc 11 [("number", u)], .exc 12 [("number", u)], .lst [.loc 28, .loc 29, .loc 30], .lst [.loc 10, .loc 11, .loc 12, .loc 13, .loc 15, .loc 16, .loc 19, .loc 20, .loc 21, .loc 22, .loc 25, .loc 28, .loc 29, .loc 30], .exc 14 [("number", u)], .lst [.loc 33], .lst [.loc 10, .loc 11, .loc 12, .loc 13, .loc 15, .loc 16, .loc 19, .loc 20, .loc 21, .loc 22, .loc 25, .loc 28, .loc 29, .loc 30, .loc 33], .exc 20 [("number", u)], .exc 21 [("number", u)], .exc 22 [("number", u)], .lst [.loc 36, .loc 37, .loc 38], .lst [.loc 10, .loc 11, .loc 12, .loc 13, .loc 15, .loc 16, .loc 19, .loc 20, .loc 21, .loc 22, .loc 25, .loc 28, .loc 29, .loc 30, .loc 33, .loc 36, .loc 37, .loc 38], .lst [.str x, .str x, .str x, .str x, .str x, .str x, .str x, .str x, .str x, .str x, .str x, .str x, .str x, .str x, .str x, .str x, .str x, .str x], .lst [.str x, .str x, .str x, .str x], .lst [.str x, .str x, .str x, .str x, .str x, .str x, .str x, .str x, .str x, .str x, .str x, .str x, .str x, .str x, .str x, .str x, .str x, .str x, .str x, .str x, .str x, .str x], .lst [.str x], .lst [.str x, .str x, .str x, .str x, .str x, .str x, .str x, .str x, .str x, .str x, .str x, .str x, .str x, .str x, .str x, .str x, .str x, .str x, .str x, .str x, .str x, .str x], .exc 16 [("tree", u)], .exc 16 [("tree", u)], .exc 23 [("line", u)], .exc 23 [("line", u)], .lst [.loc 46, .loc 47, .loc 48, .loc 49], .lst [.str x, .str x, .str x, .str x], .lst [.str x], .lst [.str x, .str x, .str x, .str x]]
def S6 (u : U) (x : Str) : List (Option U) := [some (.scr), some (.loc 0), some (u), some (.loc 9), some (.loc 43), some (.loc 50), some (.loc 102), none, none, none, none]
def H6 (u : U) (x : Str) (d t : Int) : List O := [.lst [.int d, .int t], .tup [.str "rule", .int 0], .lst [.str "a"], .tup [], .lst [.int 0, .int 3, .non, .loc 1, .loc 2, .str "ann", .int 1000000000000000000000000000000, .bl true, .loc 3], .exc 6 [("name", u)], .exc 7 [("name", u)], .exc 6 [("name", u)], .exc 7 [("name", u)], .lst [.loc 5, .loc 6, .loc 7, .loc 8], .exc 4 [("number", u)], .exc 5 [("number", u)], .exc 10 [("number", u)], .exc 11 [("number", u)], .lst [.loc 10, .loc 11, .loc 12, .loc 13], .exc 12 [("number", u)], .exc 14 [("number", u)], .lst [.loc 15, .loc 16], .lst [.loc 10, .loc 11, .loc 12, .loc 13, .loc 15, .loc 16], .exc 20 [("number", u)], .exc 21 [("number", u)], .exc 22 [("number", u)], .exc 4 [("number", u)], .lst [.loc 19, .loc 20, .loc 21, .loc 22], .lst [.loc 10, .loc 11, .loc 12, .loc 13, .loc 15, .loc 16, .loc 19, .loc 20, .loc 21, .loc 22], .exc 5 [("number", u)], .lst [.loc 25], .lst [.loc 10, .loc 11, .loc 12, .loc 13, .loc 15, .loc 16, .loc 19, .loc 20, .loc 21, .loc 22, .loc 25], .exc 10 [("number", u)], .exc 11 [("number", u)], .exc 12 [("number", u)], .lst [.loc 28, .loc 29, .loc 30], .lst [.loc 10, .loc 11, .loc 12, .loc 13, .loc 15, .loc 16, .loc 19, .loc 20, .loc 21, .loc 22, .loc 25, .loc 28, .loc 29, .loc 30], .exc 14 [("number", u)], .lst [.loc 33], .lst [.loc 10, .loc 11, .loc 12, .loc 13, .loc 15, .loc 16, .loc 19, .loc 20, .loc 21, .loc 22, .loc 25, .loc 28, .loc 29, .loc 30, .loc 33], .exc 20 [("number", u)], .exc 21 [("number", u)], .exc 22 [("number", u)], .lst [.loc 36, .loc 37, .loc 38], .lst [.loc 10, .loc 11, .loc 12, .loc 13, .loc 15, .loc 16, .loc 19, .loc 20, .loc 21, .loc 22, .loc 25, .loc 28, .loc 29, .loc 30, .loc 33, .loc 36, .loc 37, .loc 38], .lst [.str x, .str x, .str x, .str x, .str x, .str x, .str x, .str x, .str x, .str x, .str x, .str x, .str x, .str x, .str x, .str x, .str x, .str x], .lst [.str x, .str x, .str x, .str x], .lst [.str x, .str x, .str x, .str x, .str x, .str x, .str x, .str x, .str x, .str x, .str x, .str x, .str x, .str x, .str x, .str x, .str x, .str x, .str x, .str x, .str x, .str x], .lst [.str x], .lst [.str x, .str x, .str x, .str x, .str x, .str x, .str x, .str x, .str x, .str x, .str x, .str x, .str x, .str x, .str x, .str x, .str x, .str x, .str x, .str x, .str x, .str x], .exc 16 [("tree", u)], .exc 16 [("tree", u)], .exc 23 [("line", u)], .exc 23 [("line", u)], .lst [.loc 46, .loc 47, .loc 48, .loc 49], .lst [.str x, .str x, .str x, .str x], .lst [.str x], .lst [.str x, .str x, .str x, .str x], .exc 1 [], .exc 2 [], .exc 3 [], .exc 8 [], .exc 9 [], .exc 13 [], .lst [.loc 54, .loc 55, .loc 56, .loc 57, .loc 58, .loc 59], .exc 15 [], .exc 17 [], .lst [.loc 61, .loc 62], .lst [.loc 54, .loc 55, .loc 56, .loc 57, .loc 58, .loc 59, .loc 61, .loc 62], .exc 18 [], .exc 19 [], .lst [.loc 65, .loc 66], .lst [.loc 54, .loc 55, .loc 56, .loc 57, .loc 58, .loc 59, .loc 61, .loc 62, .loc 65, .loc 66], .exc 4 [("number", u)], .exc 5 [("number", u)], .exc 10 [("number", u)], .exc 11 [("number", u)], .lst [.loc 69, .loc 70, .loc 71, .loc 72], .exc 12 [("number", u)], .exc 14 [("number", u)], .lst [.loc 74, .loc 75], .lst [.loc 69, .loc 70, .loc 71, .loc 72, .loc 74, .loc 75], .exc 20 [("number", u)], .exc 21 [("number", u)], .exc 22 [("number", u)], .exc 4 [("number", u)], .lst [.loc 78, .loc 79, .loc 80, .loc 81], .lst [.loc 69, .loc 70, .loc 71, .loc 72, .loc 74, .loc 75, .loc 78, .loc 79, .loc 80, .loc 81], .exc 5 [("number", u)], .lst [.loc 84], .lst [.loc 69, .loc 70, .loc 71, .loc 72, .loc 74, .loc 75, .loc 78, .loc 79, .loc 80, .loc 81, .loc 84], .exc 10 [("number", u)], .exc 11 [("number", u)], .exc 12 [("number", u)], .lst [.loc 87, .loc 88, .loc 89], .lst [.loc 69, .loc 70, .loc 71, .loc 72, .loc 74, .loc 75, .loc 78, .loc 79, .loc 80, .loc 81, .loc 84, .loc 87, .loc 88, .loc 89], .exc 14 [("number", u)], .lst [.loc 92], .lst [.loc 69, .loc 70, .loc 71, .loc 72, .loc 74, .loc 75, .loc 78, .loc 79, .loc 80, .loc 81, .loc 84, .loc 87, .loc 88, .loc 89, .loc 92], .exc 20 [("number", u)], .exc 21 [("number", u)], .exc 22 [("number", u)], .lst [.loc 95, .loc 96, .loc 97], .lst [.loc 69, .loc 70, .loc 71, .loc 72, .loc 74, .loc 75, .loc 78, .loc 79, .loc 80, .loc 81, .loc 84, .loc 87, .loc 88, .loc 89, .loc 92, .loc 95, .loc 96, .loc 97], .lst [.loc 54, .loc 55, .loc 56, .loc 57, .loc 58, .loc 59, .loc 61, .loc 62, .loc 65, .loc 66, .loc 69, .loc 70, .loc 71, .loc 72, .loc 74, .loc 75, .loc 78, .loc 79, .loc 80, .loc 81, .loc 84, .loc 87, .loc 88, .loc 89, .loc 92, .loc 95, .loc 96, .loc 97], .lst [.loc 54, .loc 55, .loc 56, .loc 57, .loc 58, .loc 59, .loc 61, .loc 62, .loc 65, .loc 66, .loc 69, .loc 70, .loc 71, .loc 72, .loc 74, .loc 75, .loc 78, .loc 79, .loc 80, .loc 81, .loc 84, .loc 87, .loc 88, .loc 89, .loc 92, .loc 95, .loc 96, .loc 97, .loc 5, .loc 6, .loc 7, .loc 8], .lst [.loc 54, .loc 55, .loc 56, .loc 57, .loc 58, .loc 59, .loc 61, .loc 62, .loc 65, .loc 66, .loc 69, .loc 70, .loc 71, .loc 72, .loc 74, .loc 75, .loc 78, .loc 79, .loc 80, .loc 81, .loc 84, .loc 87, .loc 88, .loc 89, .loc 92, .loc 95, .loc 96, .loc 97, .loc 5, .loc 6, .loc 7, .loc 8, .loc 46, .loc 47, .loc 48, .loc 49]]
def S7 (u : U) (x : Str) : List (Option U) := [some (.scr), some (.loc 0), some (u), some (.loc 9), some (.loc 43), some (.loc 50), some (.loc 102), none, none, none, none]
def H7 (u : U) (x : Str) (d t : Int) : List O := [.lst [.int d, .int t], .tup [.str "rule", .int 0], .lst [.str "a"], .tup [], .lst [.int 0, .int 3, .non, .loc 1, .loc 2, .str "ann", .int 1000000000000000000000000000000, .bl true, .loc 3], .exc 6 [("name", u)], .exc 7 [("name", u)], .exc 6 [("name", u)], .exc 7 [("name", u)], .lst [.loc 5, .loc 6, .loc 7, .loc 8], .exc 4 [("number", u)], .exc 5 [("number", u)], .exc 10 [("number", u)], .exc 11 [("number", u)], .lst [.loc 10, .loc 11, .loc 12, .loc 13], .exc 12 [("number", u)], .exc 14 [("number", u)], .lst [.loc 15, .loc 16], .lst [.loc 10, .loc 11, .loc 12, .loc 13, .loc 15, .loc 16], .exc 20 [("number", u)], .exc 21 [("number", u)], .exc 22 [("number", u)], .exc 4 [("number", u)], .lst [.loc 19, .loc 20, .loc 21, .loc 22], .lst [.loc 10, .loc 11, .loc 12, .loc 13, .loc 15, .loc 16, .loc 19, .loc 20, .loc 21, .loc 22], .exc 5 [("number", u)], .lst [.loc 25], .lst [.loc 10, .loc 11, .loc 12, .loc 13, .loc 15, .loc 16, .loc 19, .loc 20, .loc 21, .loc 22, .loc 25], .exc 10 [("number", u)], .exc 11 [("number", u)], .exc 12 [("number", u)], .lst [.loc 28, .loc 29, .loc 30], .lst [.loc 10, .loc 11, .loc 12, .loc 13, .loc 15, .loc 16, .loc 19, .loc 20, .loc 21, .loc 22, .loc 25, .loc 28, .loc 29, .loc 30], .exc 14 [("number", u)], .lst [.loc 33], .lst [.loc 10, .loc 11, .loc 12, .loc 13, .loc 15, .loc 16, .loc 19, .loc 20, .loc 21, .loc 22, .loc 25, .loc 28, .loc 29, .loc 30, .loc 33], .exc 20 [("number", u)], .exc 21 [("number", u)], .exc 22 [("number", u)], .lst [.loc 36, .loc 37, .loc 38], .lst [.loc 10, .loc 11, .loc 12, .loc 13, .loc 15, .loc 16, .loc 19, .loc 20, .loc 21, .loc 22, .loc 25, .loc 28, .loc 29, .loc 30, .loc 33, .loc 36, .loc 37, .loc 38], .lst [.str x, .str x, .str x, .str x, .str x, .str x, .str x, .str x, .str x, .str x, .str x, .str x, .str x, .str x, .str x, .str x, .str x, .str x], .lst [.str x, .str x, .str x, .str x], .lst [.str x, .str x, .str x, .str x, .str x, .str x, .str x, .str x, .str x, .str x, .str x, .str x, .str x, .str x, .str x, .str x, .str x, .str x, .str x, .str x, .str x, .str x], .lst [.str x], .lst [.str x, .str x, .str x, .str x, .str x, .str x, .str x, .str x, .str x, .str x, .str x, .str x, .str x, .str x, .str x, .str x, .str x, .str x, .str x, .str x, .str x, .str x], .exc 16 [("tree", u)], .exc 16 [("tree", u)], .exc 23 [("line", u)], .exc 23 [("line", u)], .lst [.loc 46, .loc 47, .loc 48, .loc 49], .lst [.str x, .str x, .str x, .str x], .lst [.str x], .lst [.str x, .str x, .str x, .str x], .exc 1 [], .exc 2 [], .exc 3 [], .exc 8 [], .exc 9 [], .exc 13 [], .lst [.loc 54, .loc 55, .loc 56, .loc 57, .loc 58, .loc 59], .exc 15 [], .exc 17 [], .lst [.loc 61, .loc 62], .lst [.loc 54, .loc 55, .loc 56, .loc 57, .loc 58, .loc 59, .loc 61, .loc 62], .exc 18 [], .exc 19 [], .lst [.loc 65, .loc 66], .lst [.loc 54, .loc 55, .loc 56, .loc 57, .loc 58, .loc 59, .loc 61, .loc 62, .loc 65, .loc 66], .exc 4 [("number", u)], .exc 5 [("number", u)], .exc 10 [("number", u)], .exc 11 [("number", u)], .lst [.loc 69, .loc 70, .loc 71, .loc 72], .exc 12 [("number", u)], .exc 14 [("number", u)], .lst [.loc 74, .loc 75], .lst [.loc 69, .loc 70, .loc 71, .loc 72, .loc 74, .loc 75], .exc 20 [("number", u)], .exc 21 [("number", u)], .exc 22 [("number", u)], .exc 4 [("number", u)], .lst [.loc 78, .loc 79, .loc 80, .loc 81], .lst [.loc 69, .loc 70, .loc 71, .loc 72, .loc 74, .loc 75, .loc 78, .loc 79, .loc 80, .loc 81], .exc 5 [("number", u)], .lst [.loc 84], .lst [.loc 69, .loc 70, .loc 71, .loc 72, .loc 74, .loc 75, .loc 78, .loc 79, .loc 80, .loc 81, .loc 84], .exc 10 [("number", u)], .exc 11 [("number", u)], .exc 12 [("number", u)], .lst [.loc 87, .loc 88, .loc 89], .lst [.loc 69, .loc 70, .loc 71, .loc 72, .loc 74, .loc 75, .loc 78, .loc 79, .loc 80, .loc 81, .loc 84, .loc 87, .loc 88, .loc 89], .exc 14 [("number", u)], .lst [.loc 92], .lst [.loc 69, .loc 70, .loc 71, .loc 72, .loc 74, .loc 75, .loc 78, .loc 79, .loc 80, .loc 81, .loc 84, .loc 87, .loc 88, .loc 89, .loc 92], .exc 20 [("number", u)], .exc 21 [("number", u)], .exc 22 [("number", u)], .lst [.loc 95, .loc 96, .loc 97], .lst [.loc 69, .loc 70, .loc 71, .loc 72, .loc 74, .loc 75, .loc 78, .loc 79, .loc 80, .loc 81, .loc 84, .loc 87, .loc 88, .loc 89, .loc 92, .loc 95, .loc 96, .loc 97], .lst [.loc 54, .loc 55, .loc 56, .loc 57, .loc 58, .loc 59, .loc 61, .loc 62, .loc 65, .loc 66, .loc 69, .loc 70, .loc 71, .loc 72, .loc 74, .loc 75, .loc 78, .loc 79, .loc 80, .loc 81, .loc 84, .loc 87, .loc 88, .loc 89, .loc 92, .loc 95, .loc 96, .loc 97], .lst [.loc 54, .loc 55, .loc 56, .loc 57, .loc 58, .loc 59, .loc 61, .loc 62, .loc 65, .loc 66, .loc 69, .loc 70, .loc 71, .loc 72, .loc 74, .loc 75, .loc 78, .loc 79, .loc 80, .loc 81, .loc 84, .loc 87, .loc 88, .loc 89, .loc 92, .loc 95, .loc 96, .loc 97, .loc 5, .loc 6, .loc 7, .loc 8], .lst [.loc 54, .loc 55, .loc 56, .loc 57, .loc 58, .loc 59, .loc 61, .loc 62, .loc 65, .loc 66, .loc 69, .loc 70, .loc 71, .loc 72, .loc 74, .loc 75, .loc 78, .loc 79, .loc 80, .loc 81, .loc 84, .loc 87, .loc 88, .loc 89, .loc 92, .loc 95, .loc 96, .loc 97, .loc 5, .loc 6, .loc 7, .loc 8, .loc 46, .loc 47, .loc 48, .loc 49], .lst [], .lst []]
def S8 (u : U) (x : Str) : List (Option U) := [some (.scr), some (.loc 0), some (u), some (.loc 9), some (.loc 43), some (.loc 50), some (.loc 102), some (.loc 49), none, none, none]
def H8 (u : U) (x : Str) (d t : Int) : List O := [.lst [.int d, .int t], .tup [.str "rule", .int 0], .lst [.str "a"], .tup [], .lst [.int 0, .int 3, .non, .loc 1, .loc 2, .str "ann", .int 1000000000000000000000000000000, .bl true, .loc 3], .exc 6 [("name", u)], .exc 7 [("name", u)], .exc 6 [("name", u)], .exc 7 [("name", u)], .lst [.loc 5, .loc 6, .loc 7, .loc 8], .exc 4 [("number", u)], .exc 5 [("number", u)], .exc 10 [("number", u)], .exc 11 [("number", u)], .lst [.loc 10, .loc 11, .loc 12, .loc 13], .exc 12 [("number", u)], .exc 14 [("number", u)], .lst [.loc 15, .loc 16], .lst [.loc 10, .loc 11, .loc 12, .loc 13, .loc 15, .loc 16], .exc 20 [("number", u)], .exc 21 [("number", u)], .exc 22 [("number", u)], .exc 4 [("number", u)], .lst [.loc 19, .loc 20, .loc 21, .loc 22], .lst [.loc 10, .loc 11, .loc 12, .loc 13, .loc 15, .loc 16, .loc 19, .loc 20, .loc 21, .loc 22], .exc 5 [("number", u)], .lst [.loc 25], .lst [.loc 10, .loc 11, .loc 12, .loc 13, .loc 15, .loc 16, .loc 19, .loc 20, .loc 21, .loc 22, .loc 25], .exc 10 [("number", u)], .exc 11 [("number", u)], .exc 12 [("number", u)], .lst [.loc 28, .loc 29, .loc 30], .lst [.loc 10, .loc 11, .loc 12, .loc 13, .loc 15, .loc 16, .loc 19, .loc 20, .loc 21, .loc 22, .loc 25, .loc 28, .loc 29, .loc 30], .exc 14 [("number", u)], .lst [.loc 33], .lst [.loc 10, .loc 11, .loc 12, .loc 13, .loc 15, .loc 16, .loc 19, .loc 20, .loc 21, .loc 22, .loc 25, .loc 28, .loc 29, .loc 30, .loc 33], .exc 20 [("number", u)], .exc 21 [("number", u)], .exc 22 [("number", u)], .lst [.loc 36, .loc 37, .loc 38], .lst [.loc 10, .loc 11, .loc 12, .loc 13, .loc 15, .loc 16, .loc 19, .loc 20, .loc 21, .loc 22, .loc 25, .loc 28, .loc 29, .loc 30, .loc 33, .loc 36, .loc 37, .loc 38], .lst [.str x, .str x, .str x, .str x, .str x, .str x, .str x, .str x, .str x, .str x, .str x, .str x, .str x, .str x, .str x, .str x, .str x, .str x], .lst [.str x, .str x, .str x, .str x], .lst [.str x, .str x, .str x, .str x, .str x, .str x, .str x, .str x, .str x, .str x, .str x, .str x, .str x, .str x, .str x, .str x, .str x, .str x, .str x, .str x, .str x, .str x], .lst [.str x], .lst [.str x, .str x, .str x, .str x, .str x, .str x, .str x, .str x, .str x, .str x, .str x, .str x, .str x, .str x, .str x, .str x, .str x, .str x, .str x, .str x, .str x, .str x], .exc 16 [("tree", u)], .exc 16 [("tree", u)], .exc 23 [("line", u)], .exc 23 [("line", u)], .lst [.loc 46, .loc 47, .loc 48, .loc 49], .lst [.str x, .str x, .str x, .str x], .lst [.str x], .lst [.str x, .str x, .str x, .str x], .exc 1 [], .exc 2 [], .exc 3 [], .exc 8 [], .exc 9 [], .exc 13 [], .lst [.loc 54, .loc 55, .loc 56, .loc 57, .loc 58, .loc 59], .exc 15 [], .exc 17 [], .lst [.loc 61, .loc 62], .lst [.loc 54, .loc 55, .loc 56, .loc 57, .loc 58, .loc 59, .loc 61, .loc 62], .exc 18 [], .exc 19 [], .lst [.loc 65, .loc 66], .lst [.loc 54, .loc 55, .loc 56, .loc 57, .loc 58, .loc 59, .loc 61, .loc 62, .loc 65, .loc 66], .exc 4 [("number", u)], .exc 5 [("number", u)], .exc 10 [("number", u)], .exc 11 [("number", u)], .lst [.loc 69, .loc 70, .loc 71, .loc 72], .exc 12 [("number", u)], .exc 14 [("number", u)], .lst [.loc 74, .loc 75], .lst [.loc 69, .loc 70, .loc 71, .loc 72, .loc 74, .loc 75], .exc 20 [("number", u)], .exc 21 [("number", u)], .exc 22 [("number", u)], .exc 4 [("number", u)], .lst [.loc 78, .loc 79, .loc 80, .loc 81], .lst [.loc 69, .loc 70, .loc 71, .loc 72, .loc 74, .loc 75, .loc 78, .loc 79, .loc 80, .loc 81], .exc 5 [("number", u)], .lst [.loc 84], .lst [.loc 69, .loc 70, .loc 71, .loc 72, .loc 74, .loc 75, .loc 78, .loc 79, .loc 80, .loc 81, .loc 84], .exc 10 [("number", u)], .exc 11 [("number", u)], .exc 12 [("number", u)], .lst [.loc 87, .loc 88, .loc 89], .lst [.loc 69, .loc 70, .loc 71, .loc 72, .loc 74, .loc 75, .loc 78, .loc 79, .loc 80, .loc 81, .loc 84, .loc 87, .loc 88, .loc 89], .exc 14 [("number", u)], .lst [.loc 92], .lst [.loc 69, .loc 70, .loc 71, .loc 72, .loc 74, .loc 75, .loc 78, .loc 79, .loc 80, .loc 81, .loc 84, .loc 87, .loc 88, .loc 89, .loc 92], .exc 20 [("number", u)], .exc 21 [("number", u)], .exc 22 [("number", u)], .lst [.loc 95, .loc 96, .loc 97], .lst [.loc 69, .loc 70, .loc 71, .loc 72, .loc 74, .loc 75, .loc 78, .loc 79, .loc 80, .loc 81, .loc 84, .loc 87, .loc 88, .loc 89, .loc 92, .loc 95, .loc 96, .loc 97], .lst [.loc 54, .loc 55, .loc 56, .loc 57, .loc 58, .loc 59, .loc 61, .loc 62, .loc 65, .loc 66, .loc 69, .loc 70, .loc 71, .loc 72, .loc 74, .loc 75, .loc 78, .loc 79, .loc 80, .loc 81, .loc 84, .loc 87, .loc 88, .loc 89, .loc 92, .loc 95, .loc 96, .loc 97], .lst [.loc 54, .loc 55, .loc 56, .loc 57, .loc 58, .loc 59, .loc 61, .loc 62, .loc 65, .loc 66, .loc 69, .loc 70, .loc 71, .loc 72, .loc 74, .loc 75, .loc 78, .loc 79, .loc 80, .loc 81, .loc 84, .loc 87, .loc 88, .loc 89, .loc 92, .loc 95, .loc 96, .loc 97, .loc 5, .loc 6, .loc 7, .loc 8], .lst [.loc 54, .loc 55, .loc 56, .loc 57, .loc 58, .loc 59, .loc 61, .loc 62, .loc 65, .loc 66, .loc 69, .loc 70, .loc 71, .loc 72, .loc 74, .loc 75, .loc 78, .loc 79, .loc 80, .loc 81, .loc 84, .loc 87, .loc 88, .loc 89, .loc 92, .loc 95, .loc 96, .loc 97, .loc 5, .loc 6, .loc 7, .loc 8, .loc 46, .loc 47, .loc 48, .loc 49], .lst [], .lst []]
theorem st0 (ns : List Int) (u : U) (x : Str) (d t : Int) : ls0 ns (S0 u x) (H0 u x d t) = .nx (S1 u x) (H1 u x d t) := by kernel_rfl
theorem st3 (ns : List Int) (u : U) (x : Str) (d t : Int) : ls3 ns (S3 u x) (H3 u x d t) = .nx (S4 u x) (H4 u x d t) := by kernel_rfl
theorem st5 (ns : List Int) (u : U) (x : Str) (d t : Int) : ls5 ns (S5 u x) (H5 u x d t) = .nx (S6 u x) (H6 u x d t) := by kernel_rfl
theorem st6 (ns : List Int) (u : U) (x : Str) (d t : Int) : ls6 ns (S6 u x) (H6 u x d t) = .nx (S7 u x) (H7 u x d t) := by kernel_rfl
theorem st7 (ns : List Int) (u : U) (x : Str) (d t : Int) : ls7 ns (S7 u x) (H7 u x d t) = .nx (S8 u x) (H8 u x d t) := by kernel_rfl
def exAll (h : Mh) (xs : List U) : Bool := xs.all fun y => match y with
  | .loc n => (match h[n]? with
    | some (.exc c _) => decide (0 < c) && decide (c < 24)
    | _ => false)
  | _ => false
theorem exAll_ok {h : Mh} {xs : List U} (q : exAll h xs = true) : ∀ x ∈ xs, ∃ n c fs, x = .loc n ∧ h[n]? = some (.exc c fs) ∧ 0 < c ∧ c < 24 := fun y hy => by
  have z := List.all_eq_true.mp q y hy
  cases y with
  | loc n =>
    simp only at z
    split at z
    · rename_i c fs e
      rw [Bool.and_eq_true] at z
      exact ⟨n, c, fs, rfl, e, of_decide_eq_true z.1, of_decide_eq_true z.2⟩
    · cases z
  | _ => cases z
def everyAt (u : U) (x : Str) : Nat := match (S8 u x)[6]? with
  | some (some (U.loc m)) => m
  | _ => 0
def every8 (u : U) (x : Str) (d t : Int) : List U := match (H8 u x d t)[everyAt u x]? with
  | some (O.lst xs) => xs
  | _ => []
theorem ev1 (u : U) (x : Str) : (S8 u x)[6]? = some (some (.loc (everyAt u x))) := by kernel_rfl
theorem ev2 (u : U) (x : Str) (d t : Int) : (H8 u x d t)[everyAt u x]? = some (.lst (every8 u x d t)) := by kernel_rfl
theorem ev3 (u : U) (x : Str) (d t : Int) : exAll (H8 u x d t) (every8 u x d t) = true := by kernel_rfl
theorem ev4 (u : U) (x : Str) (d t : Int) : decide ((every8 u x d t).length < 1000) = true := by kernel_rfl
theorem len8 (u : U) (x : Str) : (S8 u x).length = 11 := by kernel_rfl
theorem two8 (u : U) (x : Str) : (S8 u x)[2]? = some (some u) := by kernel_rfl
theorem seq_nx {a b : Ms} {s s1 : Sl} {h h1 : Mh} (e : a s h = .nx s1 h1) : sSeq a b s h = b s1 h1 := by simp only [sSeq, e]
theorem rest_of {ns : List Int} {u : U} {x : Str} {d t : Int} (s1 : ls1 ns (S1 u x) (H1 u x d t) = .nx (S2 u x) (H2 u x d t)) (s2 : ls2 ns (S2 u x) (H2 u x d t) = .nx (S3 u x) (H3 u x d t)) (s4 : ls4 ns (S4 u x) (H4 u x d t) = .nx (S5 u x) (H5 u x d t))
    (cu : clean u = true) (ch : (H8 u x d t).all cleanO = true) (sh : Shows u x (H8 u x d t)) (q : Same x 2) : ∃ h', rest_law ns (S0 u x) (H0 u x d t) = .rt (.bl true) h' := by
  obtain ⟨t8, q8, c8⟩ := ls8_at ns (len8 u x) (ev1 u x) (ev2 u x d t) (exAll_ok (ev3 u x d t)) (of_decide_eq_true (ev4 u x d t))
  have k9 := ls9_at ns (s := S8 u x) (h := H8 u x d t ++ t8)
  have k10 := ls10_at ns (s := ((S8 u x).set 8 (some (.loc (H8 u x d t ++ t8).length))).set 9 (some (.loc (H8 u x d t ++ t8 ++ [O.exc 10 [("number", .int 0)]]).length))) (h := H8 u x d t ++ t8 ++ [.exc 10 [("number", .int 0)]] ++ [.exc 11 [("number", .int 0)]]) (by simp [len8]) (by simp [len8]) (get_app get_new) get_new
  obtain ⟨h', k11⟩ := ls11_at ns (s := ((S8 u x).set 8 (some (.loc (H8 u x d t ++ t8).length))).set 9 (some (.loc (H8 u x d t ++ t8 ++ [O.exc 10 [("number", .int 0)]]).length))) (h := H8 u x d t ++ t8 ++ [.exc 10 [("number", .int 0)]] ++ [.exc 11 [("number", .int 0)]] ++ [.exc 6 [("name", .str "a")]]) (u := u) (x := x) (by simp [len8]) (by simp [two8]) cu (by simp [ch, c8, cleanO, clean]) (fun h' e => sh h' fun k o a => e k o (get_app (get_app (get_app (get_app a))))) q
  refine ⟨h', ?_⟩
  unfold rest_law
  rw [seq_nx (st0 ns u x d t), seq_nx s1, seq_nx s2, seq_nx (st3 ns u x d t), seq_nx s4, seq_nx (st5 ns u x d t), seq_nx (st6 ns u x d t), seq_nx (st7 ns u x d t), seq_nx q8, seq_nx k9, seq_nx k10]
  exact k11
end Law

set_option Elab.async false
set_option linter.all false
set_option maxRecDepth 1000000
set_option maxHeartbeats 4100000
namespace Law
open PySem PySem.Spec PyProof.Rows L2 Vm
theorem shows_of {u : U} {x : Str} {h : Mh} {dd : PyData} (hr : ∀ h' : Mh, (∀ (k : Nat) (o : O), h[k]? = some o → h'[k]? = some o) → rd h' deep u = some dd) (ok : (!dd.hasDict && dd.showable && decide (dd.shown.length ≤ 100000) && decide (dd.depth ≤ 60)) = true) (ex : dd.shown = x) : Shows u x h := fun h' e => by
  simp only [fRepr, hr h' e]
  rw [if_pos ok, ex]
def xt0 : Str := PyData.shown (.int 0)
theorem v0 (ns : List Int) (d t : Int) : ∃ h', rest_law ns (S0 (.int 0) xt0) (H0 (.int 0) xt0 d t) = .rt (.bl true) h' :=
  rest_of (by kernel_rfl) (by kernel_rfl) (by kernel_rfl) (by kernel_rfl) (by kernel_rfl) (shows_of (dd := .int 0) (fun _ _ => rfl) (by kernel_rfl) rfl) ⟨by kernel_rfl, by kernel_rfl⟩
def xt1 : Str := PyData.shown (.int 3)
theorem v1 (ns : List Int) (d t : Int) : ∃ h', rest_law ns (S0 (.int 3) xt1) (H0 (.int 3) xt1 d t) = .rt (.bl true) h' :=
  rest_of (by kernel_rfl) (by kernel_rfl) (by kernel_rfl) (by kernel_rfl) (by kernel_rfl) (shows_of (dd := .int 3) (fun _ _ => rfl) (by kernel_rfl) rfl) ⟨by kernel_rfl, by kernel_rfl⟩
def xt2 : Str := PyData.shown (.none)
theorem v2 (ns : List Int) (d t : Int) : ∃ h', rest_law ns (S0 (.non) xt2) (H0 (.non) xt2 d t) = .rt (.bl true) h' :=
  rest_of (by kernel_rfl) (by kernel_rfl) (by kernel_rfl) (by kernel_rfl) (by kernel_rfl) (shows_of (dd := .none) (fun _ _ => rfl) (by kernel_rfl) rfl) ⟨by kernel_rfl, by kernel_rfl⟩
def xt3 : Str := PyData.shown (.tuple [.str "rule", .int 0])
theorem h8_3 (d t : Int) : (H8 (.loc 1) xt3 d t)[1]? = some (.tup [.str "rule", .int 0]) := by kernel_rfl
theorem v3 (ns : List Int) (d t : Int) : ∃ h', rest_law ns (S0 (.loc 1) xt3) (H0 (.loc 1) xt3 d t) = .rt (.bl true) h' :=
  rest_of (by kernel_rfl) (by kernel_rfl) (by kernel_rfl) (by kernel_rfl) (by kernel_rfl) (shows_of (dd := .tuple [.str "rule", .int 0]) (fun h' e => by
    have z := e 1 _ (h8_3 d t)
    simp only [rd, deep, z]
    rfl) (by kernel_rfl) rfl) ⟨by kernel_rfl, by kernel_rfl⟩
def xt4 : Str := PyData.shown (.list [.str "a"])
theorem h8_4 (d t : Int) : (H8 (.loc 2) xt4 d t)[2]? = some (.lst [.str "a"]) := by kernel_rfl
theorem v4 (ns : List Int) (d t : Int) : ∃ h', rest_law ns (S0 (.loc 2) xt4) (H0 (.loc 2) xt4 d t) = .rt (.bl true) h' :=
  rest_of (by kernel_rfl) (by kernel_rfl) (by kernel_rfl) (by kernel_rfl) (by kernel_rfl) (shows_of (dd := .list [.str "a"]) (fun h' e => by
    have z := e 2 _ (h8_4 d t)
    simp only [rd, deep, z]
    rfl) (by kernel_rfl) rfl) ⟨by kernel_rfl, by kernel_rfl⟩
def xt5 : Str := PyData.shown (.str "ann")
theorem v5 (ns : List Int) (d t : Int) : ∃ h', rest_law ns (S0 (.str "ann") xt5) (H0 (.str "ann") xt5 d t) = .rt (.bl true) h' :=
  rest_of (by kernel_rfl) (by kernel_rfl) (by kernel_rfl) (by kernel_rfl) (by kernel_rfl) (shows_of (dd := .str "ann") (fun _ _ => rfl) (by kernel_rfl) rfl) ⟨by kernel_rfl, by kernel_rfl⟩
def xt6 : Str := PyData.shown (.int (10 ^ 30))
theorem v6 (ns : List Int) (d t : Int) : ∃ h', rest_law ns (S0 (.int (10 ^ 30)) xt6) (H0 (.int (10 ^ 30)) xt6 d t) = .rt (.bl true) h' :=
  rest_of (by kernel_rfl) (by kernel_rfl) (by kernel_rfl) (by kernel_rfl) (by kernel_rfl) (shows_of (dd := .int (10 ^ 30)) (fun _ _ => rfl) (by kernel_rfl) rfl) ⟨by kernel_rfl, by kernel_rfl⟩
def xt7 : Str := PyData.shown (.bool true)
theorem v7 (ns : List Int) (d t : Int) : ∃ h', rest_law ns (S0 (.bl true) xt7) (H0 (.bl true) xt7 d t) = .rt (.bl true) h' :=
  rest_of (by kernel_rfl) (by kernel_rfl) (by kernel_rfl) (by kernel_rfl) (by kernel_rfl) (shows_of (dd := .bool true) (fun _ _ => rfl) (by kernel_rfl) rfl) ⟨by kernel_rfl, by kernel_rfl⟩
def xt8 : Str := PyData.shown (.tuple [])
theorem h8_8 (d t : Int) : (H8 (.loc 3) xt8 d t)[3]? = some (.tup []) := by kernel_rfl
theorem v8 (ns : List Int) (d t : Int) : ∃ h', rest_law ns (S0 (.loc 3) xt8) (H0 (.loc 3) xt8 d t) = .rt (.bl true) h' :=
  rest_of (by kernel_rfl) (by kernel_rfl) (by kernel_rfl) (by kernel_rfl) (by kernel_rfl) (shows_of (dd := .tuple []) (fun h' e => by
    have z := e 3 _ (h8_8 d t)
    simp only [rd, deep, z]
    rfl) (by kernel_rfl) rfl) ⟨by kernel_rfl, by kernel_rfl⟩
end Law

set_option Elab.async false
set_option linter.all false
set_option maxRecDepth 1000000
set_option maxHeartbeats 4100000
namespace Law
open PySem PySem.Spec PyProof.Rows L2 Vm
theorem mul_at {i j : Int} {h : Mh} (hj : -(2 ^ 64) < j ∧ j < 2 ^ 64) : fMul (.int i) (.int j) h = .ok (.int (i * j)) h := by
  simp only [fMul]
  rw [if_pos (decide_eq_true (Or.inr hj))]
theorem mul_at' {i j : Int} {h : Mh} (hj : -(2 ^ 64) < i ∧ i < 2 ^ 64) : fMul (.int i) (.int j) h = .ok (.int (i * j)) h := by
  simp only [fMul]
  rw [if_pos (decide_eq_true (Or.inl hj))]
theorem add_at {i j : Int} {h : Mh} : fAdd (.int i) (.int j) h = .ok (.int (i + j)) h := rfl
theorem sub_at {i j : Int} {h : Mh} : fSub (.int i) (.int j) h = .ok (.int (i - j)) h := rfl
theorem mod_at {i j : Int} {h : Mh} (hj : 0 < j) : fMod (.int i) (.int j) h = .ok (.int (i % j)) h := by
  simp only [fMod, fI]
  rw [if_pos (decide_eq_true hj)]
theorem div_at {i j : Int} {h : Mh} (hj : 0 < j ∧ j < 1073741824) : fDiv (.int i) (.int j) h = .ok (.int (i / j)) h := by
  simp only [fDiv, fI]
  rw [if_pos (decide_eq_true hj)]
theorem gt_at {i j : Int} {h : Mh} : fGt (.int i) (.int j) h = .ok (.bl (decide (j < i))) h := rfl
theorem abs_at {i : Int} {h : Mh} : fAbs [.int i] h = .ok (.int (if i < 0 then -i else i)) h := rfl
theorem max_at {i j : Int} {h : Mh} : fMax2 [.int i, .int j] h = .ok (.int (if j > i then j else i)) h := rfl
theorem int_at {i : Int} {h : Mh} : fInt [.int i] h = .ok (.int i) h := rfl
theorem pow18 {h : Mh} : fPow (.int 10) (.int 18) h = .ok (.int (10 ^ 18)) h := by kernel_rfl
theorem cell_at (ns : List Int) (s : Sl) (h : Mh) : ∃ c : Int, mIf (bV (m2 fLt (mV 1) (mBt (fLen ns) (lC (mV 0) (lN))))) (m2 (fIx ns) (mV 0) (mV 1)) (m2 fAdd (m2 fMul (mC (.int 61)) (mV 1)) (mC (.int 17))) (some .scr :: some (.int 0) :: s) h = .ok (.int c) h := by
  have lt : ∀ j : Int, fLt (.int 0) (.int j) h = .ok (.bl (decide (0 < j))) h := fun _ => rfl
  cases ns with
  | nil =>
    refine ⟨17, ?_⟩
    simp only [mIf, bV, m2, mBt, lC, lN, mV, mC, R.bind, List.getElem?_cons_succ, List.getElem?_cons_zero, fLen, lt, asB]
    rfl
  | cons a l =>
    have p : decide ((0 : Int) < ((a :: l).length : Int)) = true := decide_eq_true (by rw [List.length_cons]; omega)
    refine ⟨a, ?_⟩
    simp only [mIf, bV, m2, mBt, lC, lN, mV, mC, R.bind, List.getElem?_cons_succ, List.getElem?_cons_zero, fLen, lt, asB, p]
    simp [fIx, atI, ixN]
theorem feed_at (ns : List Int) : ∃ d t : Int, d_law_feed ns [.scr, .int 0] [] = .ok (.loc 0) [.lst [.int d, .int t]] := by
  obtain ⟨c, e⟩ := cell_at ns [none, none, none] []
  have m1 : ∀ i : Int, fMul (.int i) (.int 6364136223846793005) [] = .ok (.int (i * 6364136223846793005)) [] := fun i => mul_at (by decide)
  have m2' : fMul (.int 7919) (.int 0) [] = .ok (.int (7919 * 0)) [] := mul_at (by decide)
  have md : ∀ i : Int, fMod (.int i) (.int 2305843009213693951) [] = .ok (.int (i % 2305843009213693951)) [] := fun i => mod_at (by decide)
  refine ⟨if (if c < 0 then -c else c) - 10 ^ 18 > 0 then (if c < 0 then -c else c) - 10 ^ 18 else 0, (c * 6364136223846793005 + 7919 * 0 + 1442695040888963407) % 2305843009213693951, ?_⟩
  show finR (m_law_feed ns [some .scr, some (.int 0), none, none, none] []) = _
  unfold m_law_feed
  rw [sSeq, sAsg]
  rw [e]
  simp only [R.bindS, gtN, List.set, sSeq, sAsg, mBt, lC, lN, mV, mC, m2, R.bind, List.getElem?_cons_succ, List.getElem?_cons_zero, abs_at, pow18, sub_at, max_at, m1, m2', add_at, int_at, md, sRet, mL, newO, finR]
  rfl
abbrev Fd (d t : Int) : O := .lst [.int d, .int t]
theorem ix0 (ns : List Int) {d t : Int} {r : Mh} : fIx ns (.loc 0) (.int 0) (Fd d t :: r) = .ok (.int d) (Fd d t :: r) := rfl
theorem ix1 (ns : List Int) {d t : Int} {r : Mh} : fIx ns (.loc 0) (.int 1) (Fd d t :: r) = .ok (.int t) (Fd d t :: r) := rfl
theorem put0 {d t y : Int} {r : Mh} {s : Sl} : putIn (.int y) (.loc 0) (.int 0) s (Fd d t :: r) = .nx s (Fd y t :: r) := rfl
theorem put1 {d t y : Int} {r : Mh} {s : Sl} : putIn (.int y) (.loc 0) (.int 1) s (Fd d t :: r) = .nx s (Fd d y :: r) := rfl
theorem take_at (ns : List Int) (d t : Int) (r : Mh) : ∃ y d' t' : Int, d_law_take ns [.loc 0, .int 9] (Fd d t :: r) = .ok (.int (y % 9)) (Fd d' t' :: r) := by
  have m1 : ∀ (i : Int) (h : Mh), fMul (.int i) (.int 6364136223846793005) h = .ok (.int (i * 6364136223846793005)) h := fun i h => mul_at (by decide)
  have md : ∀ (i : Int) (h : Mh), fMod (.int i) (.int 2305843009213693951) h = .ok (.int (i % 2305843009213693951)) h := fun i h => mod_at (by decide)
  have m9 : ∀ (i : Int) (h : Mh), fMod (.int i) (.int 9) h = .ok (.int (i % 9)) h := fun i h => mod_at (by decide)
  have d9 : ∀ (i : Int) (h : Mh), fDiv (.int i) (.int 9) h = .ok (.int (i / 9)) h := fun i h => div_at (by decide)
  have d6 : ∀ (i : Int) (h : Mh), fDiv (.int i) (.int 65536) h = .ok (.int (i / 65536)) h := fun i h => div_at (by decide)
  by_cases c : 0 < d
  · refine ⟨d, d / 9, t, ?_⟩
    show finR (m_law_take ns [some (.loc 0), some (.int 9), none] (Fd d t :: r)) = _
    simp only [m_law_take, sSeq, sIf, bV, m2, mV, mC, R.bind, R.bindS, List.getElem?_cons_succ, List.getElem?_cons_zero, ix0, gt_at, asB, decide_eq_true c, sAsg, mBt, lC, lN, int_at, m9, gtN, List.set, sPut, d9, put0, sRet, finR]
  · refine ⟨(t * 6364136223846793005 + 1442695040888963407) % 2305843009213693951 / 65536, d, (t * 6364136223846793005 + 1442695040888963407) % 2305843009213693951, ?_⟩
    show finR (m_law_take ns [some (.loc 0), some (.int 9), none] (Fd d t :: r)) = _
    simp only [m_law_take, sSeq, sIf, bV, m2, mV, mC, R.bind, R.bindS, List.getElem?_cons_succ, List.getElem?_cons_zero, ix0, ix1, gt_at, asB, decide_eq_false c, sPass, mBt, lC, lN, int_at, m1, add_at, md, sPut, put1, d6, m9, sRet, finR]
end Law

set_option Elab.async false
set_option linter.all false
set_option maxRecDepth 1000000
set_option maxHeartbeats 4100000
namespace Law
open PySem PySem.Spec PyProof.Rows L2 Vm
def menuR : Mh := [.tup [.str "rule", .int 0], .lst [.str "a"], .tup [], .lst [.int 0, .int 3, .non, .loc 1, .loc 2, .str "ann", .int (10 ^ 30), .bl true, .loc 3]]
def mMenu : Me := mL (lC (mC (.int 0)) (lC (mC (.int 3)) (lC (mC .non) (lC (mT (lC (mC (.str "rule")) (lC (mC (.int 0)) (lN)))) (lC (mL (lC (mC (.str "a")) (lN))) (lC (mC (.str "ann")) (lC (m2 fPow (mC (.int 10)) (mC (.int 30))) (lC (mC (.bl true)) (lC (mT (lN)) (lN))))))))))
def sA : Sl := [some .scr, some (.loc 0), none, none, none, none, none, none, none, none, none]
theorem menu_at (d t : Int) : mMenu sA [Fd d t] = .ok (.loc 4) (Fd d t :: menuR) := by kernel_rfl
theorem pick_at {ns : List Int} {d t d' t' k : Int} {u : U} (q : d_law_take ns [.loc 0, .int 9] (Fd d t :: menuR) = .ok (.int k) (Fd d' t' :: menuR)) (hk : fIx ns (.loc 4) (.int k) (Fd d' t' :: menuR) = .ok u (Fd d' t' :: menuR)) :
    d_law_pick ns [.loc 0, .loc 4] (Fd d t :: menuR) = .ok u (Fd d' t' :: menuR) := by
  show finR (m_law_pick ns [some (.loc 0), some (.loc 4)] _) = _
  have len : fLen ns [.loc 4] (Fd d t :: menuR) = .ok (.int 9) (Fd d t :: menuR) := rfl
  simp only [m_law_pick, sRet, m2, mV, mCall, lC, lN, mBt, R.bind, List.getElem?_cons_succ, List.getElem?_cons_zero, len, q, hk, R.bindS, finR]
theorem two_at {ns : List Int} {d t d' t' k : Int} {u : U} (q : d_law_take ns [.loc 0, .int 9] (Fd d t :: menuR) = .ok (.int k) (Fd d' t' :: menuR)) (hk : fIx ns (.loc 4) (.int k) (Fd d' t' :: menuR) = .ok u (Fd d' t' :: menuR)) :
    sAsg (mCall (d_law_pick ns) (lC (mV 1) (lC mMenu (lN)))) (gtN 2) sA [Fd d t] = .nx [some .scr, some (.loc 0), some u, none, none, none, none, none, none, none, none] (Fd d' t' :: menuR) := by
  have v : mV 1 sA [Fd d t] = .ok (.loc 0) [Fd d t] := rfl
  simp only [sAsg, mCall, lC, lN, v, menu_at, R.bind, pick_at q hk, R.bindS, gtN]
  rfl
theorem one_at {ns : List Int} {d t : Int} (e : d_law_feed ns [.scr, .int 0] [] = .ok (.loc 0) [Fd d t]) : sAsg (mCall (d_law_feed ns) (lC (mV 0) (lC (mC (.int 0)) (lN)))) (gtN 1) (some .scr :: List.replicate 10 none) [] = .nx sA [Fd d t] := by
  have v : mV 0 (some .scr :: List.replicate 10 none) [] = .ok .scr [] := rfl
  simp only [sAsg, mCall, lC, lN, v, mC, R.bind, e, R.bindS, gtN]
  rfl
theorem end_at {ns : List Int} {d t d' t' k : Int} {u : U} (e : d_law_feed ns [.scr, .int 0] [] = .ok (.loc 0) [Fd d t]) (q : d_law_take ns [.loc 0, .int 9] (Fd d t :: menuR) = .ok (.int k) (Fd d' t' :: menuR)) (hk : fIx ns (.loc 4) (.int k) (Fd d' t' :: menuR) = .ok u (Fd d' t' :: menuR))
    (v : ∃ h', rest_law ns [some .scr, some (.loc 0), some u, none, none, none, none, none, none, none, none] (Fd d' t' :: menuR) = .rt (.bl true) h') : Yes (runB N_p_law.length (m_p_law ns) [.scr] []) := by
  obtain ⟨h', v⟩ := v
  have z : m_p_law ns (some .scr :: List.replicate 10 none) [] = .rt (.bl true) h' := by
    show sSeq (sAsg (mCall (d_law_feed ns) (lC (mV 0) (lC (mC (.int 0)) (lN)))) (gtN 1)) (sSeq (sAsg (mCall (d_law_pick ns) (lC (mV 1) (lC mMenu (lN)))) (gtN 2)) (rest_law ns)) _ _ = _
    rw [seq_nx (one_at e), seq_nx (two_at q hk)]
    exact v
  show Yes (finR (m_p_law ns (some .scr :: List.replicate 10 none) []))
  rw [z]
  trivial
theorem yes (ns : List Int) (_hl : ns.length ≤ 63) : Yes (runB N_p_law.length (m_p_law ns) [.scr] []) := by
  obtain ⟨d, t, e⟩ := feed_at ns
  obtain ⟨y, d', t', q⟩ := take_at ns d t menuR
  have hy : y % 9 = 0 ∨ y % 9 = 1 ∨ y % 9 = 2 ∨ y % 9 = 3 ∨ y % 9 = 4 ∨ y % 9 = 5 ∨ y % 9 = 6 ∨ y % 9 = 7 ∨ y % 9 = 8 := by omega
  rcases hy with (p | p | p | p | p | p | p | p | p) <;> rw [p] at q
  · exact end_at (u := .int 0) e q rfl (v0 ns d' t')
  · exact end_at (u := .int 3) e q rfl (v1 ns d' t')
  · exact end_at (u := .non) e q rfl (v2 ns d' t')
  · exact end_at (u := .loc 1) e q rfl (v3 ns d' t')
  · exact end_at (u := .loc 2) e q rfl (v4 ns d' t')
  · exact end_at (u := .str "ann") e q rfl (v5 ns d' t')
  · exact end_at (u := .int (10 ^ 30)) e q rfl (v6 ns d' t')
  · exact end_at (u := .bl true) e q rfl (v7 ns d' t')
  · exact end_at (u := .loc 3) e q rfl (v8 ns d' t')
end Law

set_option Elab.async false
set_option linter.all false
set_option maxRecDepth 1000000
open PySem PySem.W in
open PyProof.Rows in
set_option maxHeartbeats 0 in
theorem PySem.Challenge.cw_unlikehands_k52_errors_and_fields_holds : PySem.Challenge.rw_unlikehands_k52_errors_and_fields.Holds := by
  w_on
  o_law
  k_head
  (case hw => w_witness2)
  k_fill
  refine Vm.walk_lawG (k := 3) (N := Law.N_p_law) (m := Law.m_p_law) (l := PySem.Challenge.rw_unlikehands_k52_errors_and_fields) rfl rfl ⟨rfl, by decide, by decide⟩ (fun w h Y => PySem.W.kIn_of Y) Law.yes ?F
  case F =>
    intro w mg fa h KX G hmg
    refine' Law.all_mk KX G hmg ?a0 ?l0 ?c0 ?k0 ?a1 ?l1 ?c1 ?k1 ?a2 ?l2 ?c2 ?k2 ?a3 ?l3 ?c3 ?k3 ?a4 ?l4 ?c4 ?k4 ?a5 ?l5 ?c5 ?k5 ?a6 ?l6 ?c6 ?k6 ?a7 ?l7 ?c7 ?k7 ?ca0 ?kx0 ?bp0 ?tp0 ?xp0 ?ca1 ?kx1 ?bp1 ?tp1 ?xp1 ?ca2 ?kx2 ?bp2 ?tp2 ?xp2 ?ca3 ?kx3 ?bp3 ?tp3 ?xp3 ?ca4 ?kx4 ?bp4 ?tp4 ?lk4 ?rf4 ?sa4 ?in4 ?ti4 ?nf4 ?il4 ?ic4 ?ik4 ?ca5 ?kx5 ?bp5 ?tp5 ?lk5 ?rf5 ?sa5 ?in5 ?ti5 ?nf5 ?il5 ?ic5 ?ik5 ?ca6 ?kx6 ?bp6 ?tp6 ?lk6 ?rf6 ?sa6 ?in6 ?ti6 ?nf6 ?il6 ?ic6 ?ik6 ?ca7 ?kx7 ?bp7 ?tp7 ?lk7 ?rf7 ?sa7 ?in7 ?ti7 ?nf7 ?il7 ?ic7 ?ik7 ?ca8 ?kx8 ?bp8 ?tp8 ?xp8 ?ca9 ?kx9 ?bp9 ?tp9 ?xp9 ?ca10 ?kx10 ?bp10 ?tp10 ?lk10 ?rf10 ?sa10 ?in10 ?ti10 ?nf10 ?il10 ?ic10 ?ik10 ?ca11 ?kx11 ?bp11 ?tp11 ?lk11 ?rf11 ?sa11 ?in11 ?ti11 ?nf11 ?il11 ?ic11 ?ik11 ?ca12 ?kx12 ?bp12 ?tp12 ?lk12 ?rf12 ?sa12 ?in12 ?ti12 ?nf12 ?il12 ?ic12 ?ik12 ?ca13 ?kx13 ?bp13 ?tp13 ?xp13 ?ca14 ?kx14 ?bp14 ?tp14 ?lk14 ?rf14 ?sa14 ?in14 ?ti14 ?nf14 ?il14 ?ic14 ?ik14 ?ca15 ?kx15 ?bp15 ?tp15 ?xp15 ?ca16 ?kx16 ?bp16 ?tp16 ?lk16 ?rf16 ?sa16 ?in16 ?ti16 ?nf16 ?il16 ?ic16 ?ik16 ?ca17 ?kx17 ?bp17 ?tp17 ?xp17 ?ca18 ?kx18 ?bp18 ?tp18 ?xp18 ?ca19 ?kx19 ?bp19 ?tp19 ?xp19 ?ca20 ?kx20 ?bp20 ?tp20 ?lk20 ?rf20 ?sa20 ?in20 ?ti20 ?nf20 ?il20 ?ic20 ?ik20 ?ca21 ?kx21 ?bp21 ?tp21 ?lk21 ?rf21 ?sa21 ?in21 ?ti21 ?nf21 ?il21 ?ic21 ?ik21 ?ca22 ?kx22 ?bp22 ?tp22 ?lk22 ?rf22 ?sa22 ?in22 ?ti22 ?nf22 ?il22 ?ic22 ?ik22 ?ca23 ?kx23 ?bp23 ?tp23 ?lk23 ?rf23 ?sa23 ?in23 ?ti23 ?nf23 ?il23 ?ic23 ?ik23 ?chk ?z_IndexError ?z_KeyError ?z_LookupError ?z_ValueError ?z_abs ?z_int ?z_isinstance ?z_len ?z_max ?z_range ?z_repr
    (case a0 => first | k_is | kernel_rfl)
    (case l0 => first | k_is | kernel_rfl)
    (case c0 => first | k_is | kernel_rfl)
    (case k0 => first | k_is | kernel_rfl)
    (case a1 => first | k_is | kernel_rfl)
    (case l1 => first | k_is | kernel_rfl)
    (case c1 => first | k_is | kernel_rfl)
    (case k1 => first | k_is | kernel_rfl)
    (case a2 => first | k_is | kernel_rfl)
    (case l2 => first | k_is | kernel_rfl)
    (case c2 => first | k_is | kernel_rfl)
    (case k2 => first | k_is | kernel_rfl)
    (case a3 => first | k_is | kernel_rfl)
    (case l3 => first | k_is | kernel_rfl)
    (case c3 => first | k_is | kernel_rfl)
    (case k3 => first | k_is | kernel_rfl)
    (case a4 => first | k_is | kernel_rfl)
    (case l4 => first | k_is | kernel_rfl)
    (case c4 => first | k_is | kernel_rfl)
    (case k4 => first | k_is | kernel_rfl)
    (case a5 => first | k_is | kernel_rfl)
    (case l5 => first | k_is | kernel_rfl)
    (case c5 => first | k_is | kernel_rfl)
    (case k5 => first | k_is | kernel_rfl)
    (case a6 => first | k_is | kernel_rfl)
    (case l6 => first | k_is | kernel_rfl)
    (case c6 => first | k_is | kernel_rfl)
    (case k6 => first | k_is | kernel_rfl)
    (case a7 => first | k_is | kernel_rfl)
    (case l7 => first | k_is | kernel_rfl)
    (case c7 => first | k_is | kernel_rfl)
    (case k7 => first | k_is | kernel_rfl)
    (case ca0 => first | k_is | kernel_rfl)
    (case kx0 => first | k_is | kernel_rfl)
    (case bp0 => first | k_is | kernel_rfl)
    (case tp0 => first | k_is | kernel_rfl)
    (case xp0 => first | k_is | kernel_rfl)
    (case ca1 => first | k_is | kernel_rfl)
    (case kx1 => first | k_is | kernel_rfl)
    (case bp1 => first | k_is | kernel_rfl)
    (case tp1 => first | k_is | kernel_rfl)
    (case xp1 => first | k_is | kernel_rfl)
    (case ca2 => first | k_is | kernel_rfl)
    (case kx2 => first | k_is | kernel_rfl)
    (case bp2 => first | k_is | kernel_rfl)
    (case tp2 => first | k_is | kernel_rfl)
    (case xp2 => first | k_is | kernel_rfl)
    (case ca3 => first | k_is | kernel_rfl)
    (case kx3 => first | k_is | kernel_rfl)
    (case bp3 => first | k_is | kernel_rfl)
    (case tp3 => first | k_is | kernel_rfl)
    (case xp3 => first | k_is | kernel_rfl)
    (case ca4 => first | k_is | kernel_rfl)
    (case kx4 => first | k_is | kernel_rfl)
    (case bp4 => first | k_is | kernel_rfl)
    (case tp4 => first | k_is | kernel_rfl)
    (case lk4 => first | k_is | kernel_rfl)
    (case rf4 => first | k_is | kernel_rfl)
    (case sa4 => first | k_is | kernel_rfl)
    (case in4 => first | k_is | kernel_rfl)
    (case ti4 => first | k_is | kernel_rfl)
    (case nf4 => first | k_is | kernel_rfl)
    (case il4 => first | k_is | kernel_rfl)
    (case ic4 => first | k_is | kernel_rfl)
    (case ik4 => first | k_is | kernel_rfl)
    (case ca5 => first | k_is | kernel_rfl)
    (case kx5 => first | k_is | kernel_rfl)
    (case bp5 => first | k_is | kernel_rfl)
    (case tp5 => first | k_is | kernel_rfl)
    (case lk5 => first | k_is | kernel_rfl)
    (case rf5 => first | k_is | kernel_rfl)
    (case sa5 => first | k_is | kernel_rfl)
    (case in5 => first | k_is | kernel_rfl)
    (case ti5 => first | k_is | kernel_rfl)
    (case nf5 => first | k_is | kernel_rfl)
    (case il5 => first | k_is | kernel_rfl)
    (case ic5 => first | k_is | kernel_rfl)
    (case ik5 => first | k_is | kernel_rfl)
    (case ca6 => first | k_is | kernel_rfl)
    (case kx6 => first | k_is | kernel_rfl)
    (case bp6 => first | k_is | kernel_rfl)
    (case tp6 => first | k_is | kernel_rfl)
    (case lk6 => first | k_is | kernel_rfl)
    (case rf6 => first | k_is | kernel_rfl)
    (case sa6 => first | k_is | kernel_rfl)
    (case in6 => first | k_is | kernel_rfl)
    (case ti6 => first | k_is | kernel_rfl)
    (case nf6 => first | k_is | kernel_rfl)
    (case il6 => first | k_is | kernel_rfl)
    (case ic6 => first | k_is | kernel_rfl)
    (case ik6 => first | k_is | kernel_rfl)
    (case ca7 => first | k_is | kernel_rfl)
    (case kx7 => first | k_is | kernel_rfl)
    (case bp7 => first | k_is | kernel_rfl)
    (case tp7 => first | k_is | kernel_rfl)
    (case lk7 => first | k_is | kernel_rfl)
    (case rf7 => first | k_is | kernel_rfl)
    (case sa7 => first | k_is | kernel_rfl)
    (case in7 => first | k_is | kernel_rfl)
    (case ti7 => first | k_is | kernel_rfl)
    (case nf7 => first | k_is | kernel_rfl)
    (case il7 => first | k_is | kernel_rfl)
    (case ic7 => first | k_is | kernel_rfl)
    (case ik7 => first | k_is | kernel_rfl)
    (case ca8 => first | k_is | kernel_rfl)
    (case kx8 => first | k_is | kernel_rfl)
    (case bp8 => first | k_is | kernel_rfl)
    (case tp8 => first | k_is | kernel_rfl)
    (case xp8 => first | k_is | kernel_rfl)
    (case ca9 => first | k_is | kernel_rfl)
    (case kx9 => first | k_is | kernel_rfl)
    (case bp9 => first | k_is | kernel_rfl)
    (case tp9 => first | k_is | kernel_rfl)
    (case xp9 => first | k_is | kernel_rfl)
    (case ca10 => first | k_is | kernel_rfl)
    (case kx10 => first | k_is | kernel_rfl)
    (case bp10 => first | k_is | kernel_rfl)
    (case tp10 => first | k_is | kernel_rfl)
    (case lk10 => first | k_is | kernel_rfl)
    (case rf10 => first | k_is | kernel_rfl)
    (case sa10 => first | k_is | kernel_rfl)
    (case in10 => first | k_is | kernel_rfl)
    (case ti10 => first | k_is | kernel_rfl)
    (case nf10 => first | k_is | kernel_rfl)
    (case il10 => first | k_is | kernel_rfl)
    (case ic10 => first | k_is | kernel_rfl)
    (case ik10 => first | k_is | kernel_rfl)
    (case ca11 => first | k_is | kernel_rfl)
    (case kx11 => first | k_is | kernel_rfl)
    (case bp11 => first | k_is | kernel_rfl)
    (case tp11 => first | k_is | kernel_rfl)
    (case lk11 => first | k_is | kernel_rfl)
    (case rf11 => first | k_is | kernel_rfl)
    (case sa11 => first | k_is | kernel_rfl)
    (case in11 => first | k_is | kernel_rfl)
    (case ti11 => first | k_is | kernel_rfl)
    (case nf11 => first | k_is | kernel_rfl)
    (case il11 => first | k_is | kernel_rfl)
    (case ic11 => first | k_is | kernel_rfl)
    (case ik11 => first | k_is | kernel_rfl)
    (case ca12 => first | k_is | kernel_rfl)
    (case kx12 => first | k_is | kernel_rfl)
    (case bp12 => first | k_is | kernel_rfl)
    (case tp12 => first | k_is | kernel_rfl)
    (case lk12 => first | k_is | kernel_rfl)
    (case rf12 => first | k_is | kernel_rfl)
    (case sa12 => first | k_is | kernel_rfl)
    (case in12 => first | k_is | kernel_rfl)
    (case ti12 => first | k_is | kernel_rfl)
    (case nf12 => first | k_is | kernel_rfl)
    (case il12 => first | k_is | kernel_rfl)
    (case ic12 => first | k_is | kernel_rfl)
    (case ik12 => first | k_is | kernel_rfl)
    (case ca13 => first | k_is | kernel_rfl)
    (case kx13 => first | k_is | kernel_rfl)
    (case bp13 => first | k_is | kernel_rfl)
    (case tp13 => first | k_is | kernel_rfl)
    (case xp13 => first | k_is | kernel_rfl)
    (case ca14 => first | k_is | kernel_rfl)
    (case kx14 => first | k_is | kernel_rfl)
    (case bp14 => first | k_is | kernel_rfl)
    (case tp14 => first | k_is | kernel_rfl)
    (case lk14 => first | k_is | kernel_rfl)
    (case rf14 => first | k_is | kernel_rfl)
    (case sa14 => first | k_is | kernel_rfl)
    (case in14 => first | k_is | kernel_rfl)
    (case ti14 => first | k_is | kernel_rfl)
    (case nf14 => first | k_is | kernel_rfl)
    (case il14 => first | k_is | kernel_rfl)
    (case ic14 => first | k_is | kernel_rfl)
    (case ik14 => first | k_is | kernel_rfl)
    (case ca15 => first | k_is | kernel_rfl)
    (case kx15 => first | k_is | kernel_rfl)
    (case bp15 => first | k_is | kernel_rfl)
    (case tp15 => first | k_is | kernel_rfl)
    (case xp15 => first | k_is | kernel_rfl)
    (case ca16 => first | k_is | kernel_rfl)
    (case kx16 => first | k_is | kernel_rfl)
    (case bp16 => first | k_is | kernel_rfl)
    (case tp16 => first | k_is | kernel_rfl)
    (case lk16 => first | k_is | kernel_rfl)
    (case rf16 => first | k_is | kernel_rfl)
    (case sa16 => first | k_is | kernel_rfl)
    (case in16 => first | k_is | kernel_rfl)
    (case ti16 => first | k_is | kernel_rfl)
    (case nf16 => first | k_is | kernel_rfl)
    (case il16 => first | k_is | kernel_rfl)
    (case ic16 => first | k_is | kernel_rfl)
    (case ik16 => first | k_is | kernel_rfl)
    (case ca17 => first | k_is | kernel_rfl)
    (case kx17 => first | k_is | kernel_rfl)
    (case bp17 => first | k_is | kernel_rfl)
    (case tp17 => first | k_is | kernel_rfl)
    (case xp17 => first | k_is | kernel_rfl)
    (case ca18 => first | k_is | kernel_rfl)
    (case kx18 => first | k_is | kernel_rfl)
    (case bp18 => first | k_is | kernel_rfl)
    (case tp18 => first | k_is | kernel_rfl)
    (case xp18 => first | k_is | kernel_rfl)
    (case ca19 => first | k_is | kernel_rfl)
    (case kx19 => first | k_is | kernel_rfl)
    (case bp19 => first | k_is | kernel_rfl)
    (case tp19 => first | k_is | kernel_rfl)
    (case xp19 => first | k_is | kernel_rfl)
    (case ca20 => first | k_is | kernel_rfl)
    (case kx20 => first | k_is | kernel_rfl)
    (case bp20 => first | k_is | kernel_rfl)
    (case tp20 => first | k_is | kernel_rfl)
    (case lk20 => first | k_is | kernel_rfl)
    (case rf20 => first | k_is | kernel_rfl)
    (case sa20 => first | k_is | kernel_rfl)
    (case in20 => first | k_is | kernel_rfl)
    (case ti20 => first | k_is | kernel_rfl)
    (case nf20 => first | k_is | kernel_rfl)
    (case il20 => first | k_is | kernel_rfl)
    (case ic20 => first | k_is | kernel_rfl)
    (case ik20 => first | k_is | kernel_rfl)
    (case ca21 => first | k_is | kernel_rfl)
    (case kx21 => first | k_is | kernel_rfl)
    (case bp21 => first | k_is | kernel_rfl)
    (case tp21 => first | k_is | kernel_rfl)
    (case lk21 => first | k_is | kernel_rfl)
    (case rf21 => first | k_is | kernel_rfl)
    (case sa21 => first | k_is | kernel_rfl)
    (case in21 => first | k_is | kernel_rfl)
    (case ti21 => first | k_is | kernel_rfl)
    (case nf21 => first | k_is | kernel_rfl)
    (case il21 => first | k_is | kernel_rfl)
    (case ic21 => first | k_is | kernel_rfl)
    (case ik21 => first | k_is | kernel_rfl)
    (case ca22 => first | k_is | kernel_rfl)
    (case kx22 => first | k_is | kernel_rfl)
    (case bp22 => first | k_is | kernel_rfl)
    (case tp22 => first | k_is | kernel_rfl)
    (case lk22 => first | k_is | kernel_rfl)
    (case rf22 => first | k_is | kernel_rfl)
    (case sa22 => first | k_is | kernel_rfl)
    (case in22 => first | k_is | kernel_rfl)
    (case ti22 => first | k_is | kernel_rfl)
    (case nf22 => first | k_is | kernel_rfl)
    (case il22 => first | k_is | kernel_rfl)
    (case ic22 => first | k_is | kernel_rfl)
    (case ik22 => first | k_is | kernel_rfl)
    (case ca23 => first | k_is | kernel_rfl)
    (case kx23 => first | k_is | kernel_rfl)
    (case bp23 => first | k_is | kernel_rfl)
    (case tp23 => first | k_is | kernel_rfl)
    (case lk23 => first | k_is | kernel_rfl)
    (case rf23 => first | k_is | kernel_rfl)
    (case sa23 => first | k_is | kernel_rfl)
    (case in23 => first | k_is | kernel_rfl)
    (case ti23 => first | k_is | kernel_rfl)
    (case nf23 => first | k_is | kernel_rfl)
    (case il23 => first | k_is | kernel_rfl)
    (case ic23 => first | k_is | kernel_rfl)
    (case ik23 => first | k_is | kernel_rfl)
    (case z_IndexError => first | k_is | kernel_rfl)
    (case z_KeyError => first | k_is | kernel_rfl)
    (case z_LookupError => first | k_is | kernel_rfl)
    (case z_ValueError => first | k_is | kernel_rfl)
    (case z_abs => first | k_is | kernel_rfl)
    (case z_int => first | k_is | kernel_rfl)
    (case z_isinstance => first | k_is | kernel_rfl)
    (case z_len => first | k_is | kernel_rfl)
    (case z_max => first | k_is | kernel_rfl)
    (case z_range => first | k_is | kernel_rfl)
    (case z_repr => first | k_is | kernel_rfl)
    (case chk => kernel_rfl)

